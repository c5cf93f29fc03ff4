import Derived.Test.YtpbbokalojdooaaGreatWas
namespace Go.Proofs.YtpbbokalojdooaaGreat
open Go.RowKit Ch Go.Proofs.Tryz
set_option linter.unusedSimpArgs false
set_option linter.unusedVariables false
set_option maxRecDepth 20000
set_option maxHeartbeats 8000000
open Value renaming int->I,slice->Z,bool->X,agg->U
open IntKind renaming i64->J
open Option renaming none->O,some->Y
open Obj renaming cells->M
open Ending renaming returned->R'
open Bool renaming true->A',false->F'
variable {ls:List (List Row)} {rs:List Row} {t:TypeId} {W w w':World}
theorem dG7{g:Nat}{u0 u1 u2 u3 u4 u5 u6 u7 u8 u9:Value}(h:W.heap[g]? =Y (M #[u0,u1,u2,u3,u4,u5,u6,u7,u8,u9] t (0,0))):
  W.cell? ⟨g,0,O⟩=Y u0/\W.cell? ⟨g,1,O⟩=Y u1/\W.cell? ⟨g,2,O⟩=Y u2/\W.cell? ⟨g,3,O⟩=Y u3/\W.cell? ⟨g,4,O⟩=Y u4/\W.cell? ⟨g,5,O⟩=Y u5/\W.cell? ⟨g,6,O⟩=Y u6/\W.cell? ⟨g,7,O⟩=Y u7/\W.cell? ⟨g,8,O⟩=Y u8/\W.cell? ⟨g,9,O⟩=Y u9/\∀i,W.frozen? ⟨g,i,O⟩=F':=
 ⟨C' h,C' h,C' h,C' h,C' h,C' h,C' h,C' h,C' h,C' h,fun i=>by simp[World.frozen?,h]⟩
theorem bS9(rs:List Row):∀u∈rcells rs,u.oneCell'=A':=by intro u hu;unfold rcells at hu;obtain⟨r,_,hr⟩:=Cf.1 hu;simp only[Am,Cu,Eh]at hr;rcases hr with rfl|rfl|rfl<;>rfl
def NewS(rs:List Row)(w:World)(e:Ending)(w':World):Prop:=
 ∃a n c l m d,e=R' (U #[I J (iQ rs).1,X F',I J 0,Z O 0 0,Z O 0 0,(Z a n c),(Z l m d),Z O 0 0,Z O 0 0,Z O 0 0,Z O 0 0,Z O 0 0,X F',Z O 0 0,Z O 0 0])/\n<=1048576/\CellsAt w' a (n*3) (rcells (iQ rs).2.1)/\LvAt w' l m (iQ rs).2.2/\V' w w'
theorem dF6(w:World):LvAt w O 0 []:=⟨rfl,[],⟨rfl,fun h=>by omega⟩,fun i hi=>by omega⟩
theorem NewS.code{c:Int}(h:iQ rs=(c,[],[]))(hb:V' w w'):NewS rs w (R' (U #[I J c,X F',I J 0,Z O 0 0,Z O 0 0,Z O 0 0,Z O 0 0,Z O 0 0,Z O 0 0,Z O 0 0,Z O 0 0,Z O 0 0,X F',Z O 0 0,Z O 0 0])) w':=by unfold NewS;rw[h];exact⟨O,0,0,O,0,0,rfl,by omega,⟨rfl,fun h=>by omega⟩,dF6 _,hb⟩
theorem NewS.ok{a l:Option Addr}{n c m d:Nat}(h:iQ rs=(0,rs,ls))(hn:n<=1048576)(h3:CellsAt w' a (n*3) (rcells rs))(h4:LvAt w' l m ls)(h7:V' w w'):NewS rs w (R' (U #[I J 0,X F',I J 0,Z O 0 0,Z O 0 0,(Z a n c),(Z l m d),Z O 0 0,Z O 0 0,Z O 0 0,Z O 0 0,Z O 0 0,X F',Z O 0 0,Z O 0 0])) w':=by unfold NewS;rw[h];exact⟨a,n,c,l,m,d,rfl,hn,h3,h4,h7⟩
theorem bU7(ad:Addr)(n cap:Nat)(rs:List Row)(w:World)(h:CellsAt w (Y ad) (n*3) (rcells rs))(hn:n<=1048576):
  Calls prog 68 #[Z (Y ad) n cap] w fun e w'=>NewS rs w e w':=by
 have kA:∀o,V' w (w.alloc o):=fun o=>(Aa _ _).alloc z' o;have HL:=h.rlen;have IB:=fun W hW=>tK (Y ad) n cap rs W hW hn;obtain⟨c,HC⟩:∃c,Hid (cW rs=c):=⟨_,rfl⟩
 rw[HC.out]at IB;by_cases h0:c=0;rotate_left
 .have hc:(c !=0)=A':=by simpa using h0
  have HN:=hid (bQ8 HC.out hc);clear HC h0 HL;go_enter func68,ntmps68
  go_wp2_with fail
  refine(IB _ (h.below (kA _))).mono ?_;rintro e w1⟨rfl,b1⟩;have hR:=aR b1 (Ar w (M #[I J 0,X F',I J 0,Z O 0 0,Z O 0 0,Z O 0 0,Z O 0 0,Z O 0 0,Z O 0 0,Z O 0 0,Z O 0 0,Z O 0 0,X F',Z O 0 0,Z O 0 0] 112));have b1':=(kA _).trans (b1.mono (by simp));clear IB b1;go_wp2_with fail
  refine(cP3 c _).mono ?_;rintro e w2⟨rfl,b2⟩;have hR2:=aR b2 hR;have b2':=b1'.trans (b2.mono b1'.size);obtain⟨x0,x1,x2,x3,x4,x5,x6,x7,x8,x9,x10,x11,x12,x13,x14,hfz⟩:=iC hR2;clear hR hR2 b2 b1';go_wp2;refine Ae (v:=U #[I J c,X F',I J 0,Z O 0 0,Z O 0 0,Z O 0 0,Z O 0 0,Z O 0 0,Z O 0 0,Z O 0 0,Z O 0 0,Z O 0 0,X F',Z O 0 0,Z O 0 0]) (by simp[results,Tryz.results68,go_sem,x0,x1,x2,x3,x4,x5,x6,x7,x8,x9,x10,x11,x12,x13,x14]) rfl (NewS.code HN.out ?_);refine b2'.grown (row:=Y w.heap.size) ?_ b2'.size (fun g hg=>by cases hg;exact z');repeat(first|with_reducible exact uW _ _|with_reducible refine cM ?_)
 subst h0;have hn4:n<=240:=by have:=(mV HC.out).2.1;have:=HL.out;omega
 obtain⟨i0,hi0,hz0,hz1,hz2⟩:=Bz Tryz.info86;go_enter func68,ntmps68
 go_wp2_with fail
 refine(IB _ (h.below (kA _))).mono ?_;rintro e w1⟨rfl,b1⟩;have hR:=aR b1 (Ar w (M #[I J 0,X F',I J 0,Z O 0 0,Z O 0 0,Z O 0 0,Z O 0 0,Z O 0 0,Z O 0 0,Z O 0 0,Z O 0 0,Z O 0 0,X F',Z O 0 0,Z O 0 0] 112));have b1':=(kA _).trans (b1.mono (by simp));have lR:=(Ab.1 hR).1;clear IB b1;have kE:V' w1 (w1.alloc (M #[] 86)):=(Aa _ _).alloc z' _;have oE:(w1.alloc (M #[] 86)).ownsRow w1.heap.size 86 3 (Z (Y ⟨w1.heap.size,0,O⟩) 0 0) 0 []:=Cr w1 #[] 0 z' (by unfold maxLen;omega) (by simp);have bE:=b1'.trans (kE.mono b1'.size);go_wp2_with(at_builtin;go_must (refine bM underlying24 underlying24 hi0 hz0 hz1 hz2 rfl (by omega) (by omega) (.tmp 12) (.tmp 13) ?_ ?_ w1.heap.size (Z (Y ⟨w1.heap.size,0,O⟩) 0 0) 0 [] (Y ad) n cap (rcells rs) ?_ ?_ oE (h.below bE) (bS9 _) (by omega) kE.size ?_;exact rfl;exact rfl;exact rfl;exact rfl;intro a2 c2 w2 ob gr2 at2))
 rw[Al,List.nil_append]at ob;have b2':=bE.grown gr2 bE.size (fun g hg=>by have:=(aH oE g hg).1;have:=b1'.size;omega);have hR2:=mJ gr2 (aR kE hR) (wD oE lR);have hbx:∀g,(Z a2 n c2).ownBlock=Y g->w1.heap.size<=g/\g<w2.heap.size:=fun g hg=>aH ob g hg;have kX:V' w2 (w2.alloc (M #[Z a2 n c2,Z O 0 0,Z O 0 0,Z O 0 0,Z O 0 0,Z O 0 0,Z O 0 0,X F',Z O 0 0,Z O 0 0] 68)):=(Aa _ _).alloc z' _;have hX:=Ar w2 (M #[Z a2 n c2,Z O 0 0,Z O 0 0,Z O 0 0,Z O 0 0,Z O 0 0,Z O 0 0,X F',Z O 0 0,Z O 0 0] 68);have hR3:=aR kX hR2;have ob3:=aG ob kX;have b3:=b2'.trans (kX.mono b2'.size);have l2:w1.heap.size<=w2.heap.size:=by have:=gr2.size;simp at this;omega
 clear oE kE bE gr2 at2 hR hR2 b2' ob kX;go_wp2_with fail
 go_loopw [5] (fun i wr=>∃(k m d:Nat) (l:Option Addr),k<=n/\i=I J k/\Hid (pA rs k)/\wr.heap[w2.heap.size]? =Y (M #[Z a2 n c2,Z l m d,Z O 0 0,Z O 0 0,Z O 0 0,Z O 0 0,Z O 0 0,X F',Z O 0 0,Z O 0 0] 68 (0,0))/\OwnLv wr (w2.heap.size+1) (Z l m d) m (gM rs k)/\wr.ownsRow w1.heap.size 86 3 (Z a2 n c2) n (rcells rs)/\wr.heap[w.heap.size]? =Y (M #[I J 0,X F',I J 0,Z O 0 0,Z O 0 0,Z O 0 0,Z O 0 0,Z O 0 0,Z O 0 0,Z O 0 0,Z O 0 0,Z O 0 0,X F',Z O 0 0,Z O 0 0] 112 (0,0))/\V' w wr) (fun i _=>n-(intOf i).toNat)
 case atStart=>exact⟨0,0,0,O,Ad _,rfl,hid (bH2 rs),hX,(dF8 _ _).own,ob3,hR3,b3⟩
 case round=>
  clear hX ob3 hR3 b3;obtain⟨k,m,d,l,hk,rfl,HRM,hX,own,ob,hR,hB⟩:=hrel;have lR2:=(Ab.1 hR).1;have lX:=(Ab.1 hX).1;obtain⟨y0,y1,y2,y3,y4,y5,y6,y7,y8,y9,hyz⟩:=dG7 hX;have HG:=hid (zT HC.out k (by have:=HL.out;omega) HRM.out);have hsz:aW (gM rs k)<=1048576:=by have:=oK HG.out;omega
  have hAt:LvAt wr l m (gM rs k):=own.at (fun i=>by have:=fI hsz i;omega);by_cases hlt:k<n
  .have hkl:k<rs.length:=by have:=HL.out;omega
   have HMA:=hid (fun hl=>bE8 HC.out hkl hl);have HNX:=hid (fun hl=>bH1 HRM.out hl);have HPN:Hid (gM rs (k+1)=Ch.put (gM rs k) (rs.getD k Row.zero)):=rfl;have hPL:(gM rs (k+1)).length<=61:=bS6 HG.out;obtain⟨b,off,hao,hc0,hc1,hc2⟩:=(h.below hB).row hlt;have hbw:b<w.heap.size:=by obtain⟨b',off',hbo,hq,_⟩:=h.row hlt;rw[hao]at hbo;simp only[Af,Ap,Cn]at hbo;rw[hbo.1];exact aD hq
   have hbl:=aD hc0;generalize rs.getD k Row.zero=r at*;obtain⟨rk,rv,rg⟩:=r;simp only at hc0 hc1 hc2;simp only[Af]at hao;subst hao;have IP:=vN l m d (gM rs k) rk rv rg wr.drew (show LvAt wr.drew l m _ from hAt) hsz HG.out;rw[<-HPN.out]at IP;clear HG hsz hAt own HPN;go_wp2_with fail
   refine R0 (fun W'=>W'.cell? ⟨b,off+k*3,O⟩=Y (I J rk)/\W'.cell? ⟨b,off+k*3+1,O⟩=Y (I J rv)/\W'.cell? ⟨b,off+k*3+2,O⟩=Y (X rg)) (⟨hc0,hc1,hc2⟩) (fun hH=>?_);refine R5 0 2 3 4 5 ?_;refine R6 1 (fun K hK=>?_);have ly1:wr.drew.cell? ⟨w2.heap.size,1,O⟩=Y (Z l m d):=y1;go_simp;refine hK.out _ _ hH (fun hH=>?_);clear hK K;refine R6 6 (fun K hK=>?_);go_simp;refine IP.mono ?_;rintro e w4⟨l4,m4,d4,rfl,own4,b4⟩;have hX4:=aR b4 (show wr.drew.heap[w2.heap.size]? =_ from hX);have hR4:=aR b4 (show wr.drew.heap[w.heap.size]? =_ from hR);have ob4:=aG (show wr.drew.ownsRow w1.heap.size 86 3 (Z a2 n c2) n (rcells rs)from ob) b4;have hB4:=hB.drew.trans (b4.mono hB.size);obtain⟨z0,z1,z2,z3,z4,z5,z6,z7,z8,z9,hgz⟩:=dG7 hX4;have lX4:=(Ab.1 hX4).1;refine hK.out _ _ ⟨keep_cell b4 hH.1,keep_cell b4 hH.2.1,keep_cell b4 hH.2.2⟩ (fun hH=>?_);clear hK K;refine R1 7 ?_;refine R6 8 (fun K hK=>?_);go_simp;refine hK.out _ _ ⟨(Aq _ _ _ _ (by first|(simp;done)|(simp;omega))).trans hH.1,(Aq _ _ _ _ (by first|(simp;done)|(simp;omega))).trans hH.2.1,(Aq _ _ _ _ (by first|(simp;done)|(simp;omega))).trans hH.2.2⟩ (fun hH=>?_);clear hK K;refine R7 ?_;have HLn:=own4.1;have own5:OwnLv (w4.setCell ⟨w2.heap.size,1,O⟩ (Z l4 m4 d4)) (w2.heap.size+1) (Z l4 m4 d4) m4 (gM rs (k+1)):=(own4.base (B':=w2.heap.size+1) (by simp;omega)).box (by omega) _;have ob5:=oY (p:=w2.heap.size) (o:=1) ob4 (fun g hg=>by have:=(hbx g hg).2;omega) (Z l4 m4 d4);have hX5:(w4.setCell ⟨w2.heap.size,1,O⟩ (Z l4 m4 d4)).heap[w2.heap.size]? =Y (M #[Z a2 n c2,Z l4 m4 d4,Z O 0 0,Z O 0 0,Z O 0 0,Z O 0 0,Z O 0 0,X F',Z O 0 0,Z O 0 0] 68 (0,0)):=by have:=Ah (i:=1) hX4 (Z l4 m4 d4);simpa using this
   have hR5:=(Bu w4 ⟨w2.heap.size,1,O⟩ (Z l4 m4 d4) w.heap.size (by show w.heap.size≠w2.heap.size;omega)).trans hR4;have b5:=hB4.setCell (p:=⟨w2.heap.size,1,O⟩) (by show w.heap.size<=w2.heap.size;omega) (Z l4 m4 d4);generalize w4.setCell ⟨w2.heap.size,1,O⟩ (Z l4 m4 d4)=w5 at*;have lX5:=(Ab.1 hX5).1;obtain⟨v0,v1,v2,v3,v4,v5,v6,v7,v8,v9,hvz⟩:=dG7 hX5;by_cases hbig:60<(gM rs (k+1)).length
   .have HN:=hid (HMA.out hbig);have hm:(60:Int)<(m4:Int):=by omega
    clear HMA HNX;go_wp2_with fail
    refine(cP3 2 _).mono ?_;rintro e w6⟨rfl,b6⟩;have hR6:=aR b6 hR5;have b6':=b5.trans (b6.mono b5.size);obtain⟨x0,x1,x2,x3,x4,x5,x6,x7,x8,x9,x10,x11,x12,x13,x14,hfz⟩:=iC hR6;clear b6 hR5 hR6;go_wp2;refine Ae (v:=U #[I J 2,X F',I J 0,Z O 0 0,Z O 0 0,Z O 0 0,Z O 0 0,Z O 0 0,Z O 0 0,Z O 0 0,Z O 0 0,Z O 0 0,X F',Z O 0 0,Z O 0 0]) (by simp[results,Tryz.results68,go_sem,x0,x1,x2,x3,x4,x5,x6,x7,x8,x9,x10,x11,x12,x13,x14]) rfl (NewS.code HN.out ?_);refine b6'.grown (row:=Y w.heap.size) ?_ b6'.size (fun g hg=>by cases hg;exact z');repeat(first|with_reducible exact uW _ _|with_reducible refine cM ?_)
   .have HN:=hid (HNX.out hbig);have hm:¬(60:Int)<(m4:Int):=by omega
    clear HMA HNX;go_wp2;go_roundw;case rel=>exact⟨k+1,m4,d4,l4,by omega,by go_num,HN,hX5,own5,ob5,hR5,b5⟩
    case measure=>simp[intOf];omega
  .obtain rfl:k=n:=by omega
   have HN:=hid (cI1 HC.out (by have:=HL.out;rw[<-this];exact HRM.out));rw[<-HL.out]at HN;have hOb:=aO ob;obtain⟨x0,x1,x2,x3,x4,x5,x6,x7,x8,x9,x10,x11,x12,x13,x14,hfz⟩:=iC hR;clear HC HRM HG;go_wp2;refine Ae (v:=U #[I J 0,X F',I J 0,Z O 0 0,Z O 0 0,(Z a2 k c2),(Z l m d),Z O 0 0,Z O 0 0,Z O 0 0,Z O 0 0,Z O 0 0,X F',Z O 0 0,Z O 0 0]) (by simp[results,Tryz.results68,go_sem,x0,x1,x2,x3,x4,x5,x6,x7,x8,x9,x10,x11,x12,x13,x14]) rfl (NewS.ok HN.out (by omega) ?_ ?_ ?_)
   .refine aO (base:=w1.heap.size) (cap:=c2) (e:=86) (size:=3) ?_;refine aN (row:=Y w.heap.size) ob ?_ (fun g hg e=>by have:=(hbx g hg).1;cases e;omega);repeat(first|with_reducible exact uW _ _|with_reducible refine cM ?_)
   .refine OwnLv.at (B:=w2.heap.size+1) (cap:=d) ?_ (fun i=>by have:=fI hsz i;omega);obtain⟨vs,oV⟩:=own.told;have hlf:=oV.lt;have hll:=fun g hg=>aH oV.2.1 g hg;refine(oV.grownN (row:=Y w.heap.size) ?_ (fun g hg e=>by have:=(hll g hg).1;cases e;omega) (fun i x g hx hg e=>by have:=(hlf i x g hx hg).1;cases e;omega)).own;repeat(first|with_reducible exact uW _ _|with_reducible refine cM ?_)
   .refine hB.grown (row:=Y w.heap.size) ?_ hB.size (fun g hg=>by cases hg;exact z');repeat(first|with_reducible exact uW _ _|with_reducible refine cM ?_)
section
open Go.Maps
theorem aJ0(xt xm yt ym:Int)(W:World):Calls prog 196 #[U #[I J xt,I J xm],U #[I J yt,I J ym]] W fun e w'=>e=R' (X (Ch.ltE ⟨xt,xm⟩ ⟨yt,ym⟩))/\V' W w':=by
 have kb:V' W ((W.alloc (M #[I J xt,I J xm] 265)).alloc (M #[I J yt,I J ym] 265)):=((Aa _ _).alloc z' _).alloc (by simp) _;by_cases h1:xt=yt
 .have e1:(xt !=yt)=F':=by simpa using h1
  have HE:Hid (Ch.ltE ⟨xt,xm⟩ ⟨yt,ym⟩=decide (xm<ym)):=by
   show _=_;unfold Ch.ltE;have:¬xt<yt:=by omega
   simp[h1]
  clear h1;go_enter func196,ntmps196
  go_wp2;go_ret;exact⟨by rw[HE.out];(try simp),kb⟩
 .have e1:(xt !=yt)=A':=by simpa using h1
  have HE:Hid (Ch.ltE ⟨xt,xm⟩ ⟨yt,ym⟩=decide (xt<yt)):=by show _=_;unfold Ch.ltE;simp[h1]
  clear h1;go_enter func196,ntmps196
  go_wp2;go_ret;exact⟨by rw[HE.out];(try simp),kb⟩
theorem cK1(a:Option Addr)(n cap:Nat)(ps:List Hold)(w:World)(h:CellsAt w a (n*2) (hcells ps))(hn:n<=1048576):
  Calls prog 176 #[Z a n cap] w fun e w'=>e=R' (I J (gK ps))/\V' w w':=by
 have HL:=h.hlen;by_cases hbig:240<n
 .have HF:Hid (gK ps=2):=bO8 (by have:=HL.out;omega);go_enter func176,ntmps176
  go_wp2;go_ret;exact⟨cH HF.out.symm,Aa _ _⟩
 have hn4:n<=240:=by omega
 have hpl:ps.length<=240:=by have:=HL.out;omega
 clear hbig;go_enter func176,ntmps176
 go_wp2;go_loopw [3] (fun i wr=>∃k:Nat,k<=n/\i=I J k/\Hid (lD ps 0=lD ps k)/\V' w wr) (fun i _=>n-(intOf i).toNat)
 case atStart=>exact⟨0,Ad _,rfl,hid rfl,Aa _ _⟩
 case round=>
  obtain⟨k,hk,rfl,HH,hB⟩:=hrel;by_cases hlt:k<n
  .have hkl:k<ps.length:=by have:=HL.out;omega
   have HS:=hid (fun c (he:uA ps k=c) (hc:(c !=0)=A')=>dA4 hpl (HH.out.trans ((dN6 hkl (by rw[he];exact hc)).trans he)) hc);have HN:=hid (fun(he:uA ps k=0)=>HH.out.trans (dN7 hkl (by rw[he];rfl)));have HRG:=hid (fun hr=>bJ4 (ps:=ps) (k:=k) hr);have HFM:=hid (fun hr h0 hl=>bW6 (ps:=ps) (k:=k) hr h0 hl);have HF0:=hid (fun hr h0=>bJ3 (ps:=ps) (k:=k) hr h0);have HFN:=hid (fun hr hl=>bW5 (ps:=ps) (k:=k) hr hl);obtain⟨g,off,hao,q0,q1⟩:=(h.below hB).hold hlt;have HP:=hid (fun(h0:0<k)=>(h.below hB).hold (k:=k-1) (by omega));have hbl:=aD q0;generalize ps.getD (k-1) Hold.zero=pr at*;obtain⟨pt,pm⟩:=pr;generalize ps.getD k Hold.zero=r at*;obtain⟨rt,rm⟩:=r;subst hao;simp only at q0 q1 HRG HFM HF0 HFN HP;have IM:=fun W=>bP rt W;have IT:=fun W=>cT rm W;cases hm:inB rt 0 9999
   .rw[hm]at IM;replace HS:=hid (HS.out 3 (HRG.out (by rw[hm];rfl)) rfl);clear HN HRG HFM HF0 HFN IT HP;go_wp2_with fail
    refine(IM _).mono ?_;rintro e w'⟨rfl,rfl⟩;go_wp2;go_ret;exact⟨cH HS.out.symm,hB⟩
   rw[hm]at IM;cases ht:inB rm 0 99
   .rw[ht]at IT;replace HS:=hid (HS.out 3 (HRG.out (by rw[hm,ht];rfl)) rfl);clear HN HRG HFM HF0 HFN HP;go_wp2_with fail
    refine(IM _).mono ?_;rintro e w'⟨rfl,rfl⟩;go_wp2_with fail
    refine(IT _).mono ?_;rintro e w'⟨rfl,rfl⟩;go_wp2;go_ret;exact⟨cH HS.out.symm,hB⟩
   rw[ht]at IT;have hr:(!inB rt 0 9999||!inB rm 0 99)=F':=by rw[hm,ht];rfl
   clear HRG;by_cases h0:0<k;rotate_left
   .have hk0:k=0:=by omega
    have HX:=hid (HF0.out hr hk0);replace HN:=hid (HN.out HX.out);subst hk0;have hd0:decide ((0:Int)<((0:Nat):Int))=F':=by simp
    simp only[Ep,Nat.add_zero]at q0 q1;clear HS HFM HF0 HFN HP hr hm ht;go_wp2_with fail
    refine(IM _).mono ?_;rintro e w'⟨rfl,rfl⟩;go_wp2_with fail
    refine(IT _).mono ?_;rintro e w'⟨rfl,rfl⟩;clear IM IT;go_wp2_with fail
    refine R0 (fun W'=>V' w W') (hB.drew) (fun hH=>?_);refine R8 0 (h:=R8 1 (h:=R8 2 (h:=R9 3 (h:=R9 4 (h:=J3 ?_)))));refine R9 5 (h:=R9 6 (h:=R9 7 (h:=R9 8 (h:=R9 9 (h:=J3 ?_)))));refine R9 10 (h:=R9 11 (h:=R9 12 (h:=R9 13 (h:=R8 14 (h:=J3 ?_)))));refine R7 ?_;have hB2:=hH;clear hH;go_wp2;go_roundw;case rel=>exact⟨0+1,by omega,by go_num,HN,hB2⟩
    case measure=>simp[intOf];omega
   obtain⟨g',off',hg',u0,u1⟩:=HP.out h0;cases hg';have IC:=fun W=>aJ0 pt pm rt rm W;obtain⟨i,hki⟩:∃i,Hid (k-1=i):=⟨_,rfl⟩
   rw[hki.out]at u0 u1;have hd0:(0:Int)<(k:Int):=by omega
   have hk1:i<n:=by have:=hki.out;omega
   have hwi:IntKind.i64.wrap ((k:Int)-1)=(i:Int):=by rw[Br _ ⟨by omega,by omega⟩];have:=hki.out;omega
   clear HP HF0;cases hl:Ch.ltE ⟨pt,pm⟩ ⟨rt,rm⟩
   .rw[hl]at IC;replace HS:=hid (HS.out 1 (HFM.out hr h0 hl) rfl);clear HN HFM HFN hr hm ht hl;go_wp2_with fail
    refine(IM _).mono ?_;rintro e w'⟨rfl,rfl⟩;go_wp2_with fail
    refine(IT _).mono ?_;rintro e w'⟨rfl,rfl⟩;clear IM IT;go_wp2_with fail
    refine R0 (fun W'=>W'.cell? ⟨g,off+i*2,O⟩=Y (I J pt)/\W'.cell? ⟨g,off+i*2+1,O⟩=Y (I J pm)/\W'.cell? ⟨g,off+k*2,O⟩=Y (I J rt)/\W'.cell? ⟨g,off+k*2+1,O⟩=Y (I J rm)/\V' w W') (⟨u0,u1,q0,q1,hB.drew⟩) (fun hH=>?_);refine R5 0 1 2 3 4 ?_;refine R5 5 6 7 8 9 ?_;refine R2 10 11 ?_;refine R6 12 (fun K hK=>?_);go_simp;refine(IC _).mono ?_;rintro e w9⟨rfl,b9⟩;refine hK.out _ _ ?_ (fun hH=>?_)
    .exact⟨keep_cell b9 hH.1,keep_cell b9 hH.2.1,keep_cell b9 hH.2.2.1,keep_cell b9 hH.2.2.2.1,hH.2.2.2.2.trans (b9.mono hH.2.2.2.2.size)⟩
    clear hK K;refine R2 13 14 ?_;refine R7 ?_;have hB2:=hH.2.2.2.2;clear hH;go_wp2;go_ret;exact⟨cH HS.out.symm,hB2⟩
   .rw[hl]at IC;have HX:=hid (HFN.out hr hl);replace HN:=hid (HN.out HX.out);clear HS HFM HFN hr hm ht hl;go_wp2_with fail
    refine(IM _).mono ?_;rintro e w'⟨rfl,rfl⟩;go_wp2_with fail
    refine E' (IT _) ?_;clear IM IT;go_wp2_with fail
    refine R0 (fun W'=>W'.cell? ⟨g,off+i*2,O⟩=Y (I J pt)/\W'.cell? ⟨g,off+i*2+1,O⟩=Y (I J pm)/\W'.cell? ⟨g,off+k*2,O⟩=Y (I J rt)/\W'.cell? ⟨g,off+k*2+1,O⟩=Y (I J rm)/\V' w W') (⟨u0,u1,q0,q1,hB.drew⟩) (fun hH=>?_);refine R5 0 1 2 3 4 ?_;refine R5 5 6 7 8 9 ?_;refine R2 10 11 ?_;refine R6 12 (fun K hK=>?_);go_simp;refine(IC _).mono ?_;rintro e w9⟨rfl,b9⟩;refine hK.out _ _ ?_ (fun hH=>?_)
    .exact⟨keep_cell b9 hH.1,keep_cell b9 hH.2.1,keep_cell b9 hH.2.2.1,keep_cell b9 hH.2.2.2.1,hH.2.2.2.2.trans (b9.mono hH.2.2.2.2.size)⟩
    clear hK K;refine R2 13 14 ?_;refine R7 ?_;have hB2:=hH.2.2.2.2;clear hH;go_wp2;go_roundw;case rel=>exact⟨k+1,by omega,by go_num,HN,hB2⟩
    case measure=>simp[intOf];omega
  .obtain rfl:k=n:=by omega
   have HZ:=hid (HH.out.trans (dJ0 (by have:=HL.out;omega)));have HT:=hid (fun hd=>cQ7 hpl HZ.out hd);have HO:=hid (fun hd=>dA5 hpl HZ.out hd);clear HH HZ;generalize wr=wq at*;go_wp2;go_loopw [4] (fun i wr=>∃k':Nat,k'<=k/\i=I J k'/\Hid ((nN (ps.take k')).Nodup)/\V' w wr) (fun i _=>k-(intOf i).toNat)
   case atStart=>exact⟨0,Ad _,rfl,hid (by simp[nN]),hB⟩
   case round=>
    clear hB;obtain⟨i,hi,rfl,HD,hB⟩:=hrel;generalize wr=wp at*;by_cases hil:i<k
    .have hip:i<ps.length:=by have:=HL.out;omega
     have HDN:=hid (fun hne=>bJ8 hip HD.out hne);have HTF:=hid (fun j (hj:j<i) he=>HT.out (bW3 hj hip he));clear HD;go_wp2;go_loopw [5] (fun q wr=>∃j:Nat,j<=i/\q=I J j/\Hid (∀j',j'<j->(ps.getD j' Hold.zero).m≠(ps.getD i Hold.zero).m)/\V' w wr) (fun q _=>i-(intOf q).toNat)
     case atStart=>exact⟨0,Ad _,rfl,hid (fun j' hj'=>by omega),hB⟩
     case round=>
      clear hB;obtain⟨j,hj,rfl,HA,hB⟩:=hrel;by_cases hjl:j<i
      .replace HTF:=hid (HTF.out j hjl);have HAN:=hid (fun hne=>fun j' (hj':j'<j+1)=>(if he:j'=j then by rw[he];exact hne else HA.out j' (by omega):(ps.getD j' Hold.zero).m≠(ps.getD i Hold.zero).m));clear HA;obtain⟨g,off,hao,q0,q1⟩:=(h.below hB).hold hil;obtain⟨g',off',hao',p0,p1⟩:=(h.below hB).hold (k:=j) (by omega);subst hao;cases hao';have hbl:=aD q0;have hjn:j<k:=by omega
       generalize hri:ps.getD i Hold.zero=r at*;generalize hrj:ps.getD j Hold.zero=rj at*;obtain⟨rt,rm⟩:=r;obtain⟨pt,pm⟩:=rj;simp only at q0 q1 p0 p1 HTF HAN;by_cases hm:pm=rm
       .have e1:(pm==rm)=A':=by simpa using hm
        replace HTF:=hid (HTF.out hm);clear HAN HDN hm hri hrj HO;go_wp2;refine R0 (fun W'=>W'.cell? ⟨g,off+j*2+1,O⟩=Y (I J pm)/\W'.cell? ⟨g,off+i*2+1,O⟩=Y (I J rm)/\V' w W') (⟨p1,q1,hB.drew⟩) (fun hH=>?_);refine R5 0 1 2 3 4 ?_;refine R5 5 6 7 8 9 ?_;refine R1 10 ?_;refine R7 ?_;have hB2:=hH.2.2;clear hH;go_wp2;go_ret;exact⟨cH HTF.out.symm,hB2⟩
       .have e1:(pm==rm)=F':=by simpa using hm
        replace HAN:=hid (HAN.out hm);clear HTF HDN hm hri hrj HO;go_wp2;refine R0 (fun W'=>W'.cell? ⟨g,off+j*2+1,O⟩=Y (I J pm)/\W'.cell? ⟨g,off+i*2+1,O⟩=Y (I J rm)/\V' w W') (⟨p1,q1,hB.drew⟩) (fun hH=>?_);refine R5 0 1 2 3 4 ?_;refine R5 5 6 7 8 9 ?_;refine R1 10 ?_;refine R7 ?_;have hB2:=hH.2.2;clear hH;go_wp2;go_roundw;case rel=>exact⟨j+1,by omega,by go_num,HAN,hB2⟩
        case measure=>simp[intOf];omega
      .obtain rfl:j=i:=by omega
       replace HDN:=hid (HDN.out HA.out);clear HA HTF;go_wp2;go_roundw;case rel=>exact⟨j+1,by omega,by go_num,HDN,hB⟩
       case measure=>simp[intOf];omega
    .obtain rfl:i=k:=by omega
     have HX:=hid (HO.out (bX1 (by have:=HL.out;omega) HD.out));go_wp2;go_ret;exact⟨cH HX.out.symm,hB⟩
end
theorem cH1(a:Option Addr)(n cap:Nat)(v:Int)(ps:List Hold)(w:World)(h:CellsAt w a (n*2) (hcells ps))(hn:n<=1048576):
  Calls prog 210 #[Z a n cap,I J v] w fun e w'=>∃a' m c',e=R' (Z a' m c')/\m<=1048576/\w'.ownsRow w.heap.size 2 1 (Z a' m c') m (icells (rG ps v))/\V' w w':=by
 have HL:=h.hlen;obtain⟨i0,hi0,hz0,hz1,hz2⟩:=Bz Tryz.info2;have oE:=gE w w.heap.size 2 1 z';have kE:V' w (w.alloc (M #[] 2)):=(Aa _ _).alloc z' _;go_enter func210,ntmps210
 go_wp2;go_loopw [5,6] (fun q i wr=>∃(k m:Nat) (a':Option Addr) (c':Nat),k<=n/\m<=k/\i=I J k/\q=Z a' m c'/\wr.ownsRow w.heap.size 2 1 (Z a' m c') m (icells (rG (ps.take k) v))/\V' w wr) (fun _ i _=>n-(intOf i).toNat)
 case atStart=>exact⟨0,0,_,_,Ad _,z',rfl,rfl,oE,kE⟩
 case round=>
  clear oE kE;obtain⟨k,m,a',c',hk,hmk,rfl,rfl,own,hB⟩:=hrel;by_cases hlt:k<n
  .have hkl:k<ps.length:=by have:=HL.out;omega
   have HY:=hid (fun he=>bW9 (v:=v) hkl he);have HN:=hid (fun he=>cR0 (v:=v) hkl he);obtain⟨b,off,rfl,q0,q1⟩:=(h.below hB).hold hlt;have hbl:=aD q0;generalize ps.getD k Hold.zero=r at*;obtain⟨rt,rm⟩:=r;simp only at q0 q1 HY HN;generalize rG (ps.take k) v=zs at*;have hsum:m+1<=4194304:=by omega
   by_cases hh:rt=v;rotate_left
   .have e1:(rt==v)=F':=by simpa using hh
    go_wp2;go_roundw;case rel=>exact⟨k+1,m,a',c',by omega,by omega,by go_num,rfl,by rw[HN.out e1];exact own,hB⟩
    case measure=>simp[intOf];omega
   .have e1:(rt==v)=A':=by simpa using hh
    replace HY:=hid (HY.out e1);clear HN hh;have kQ:V' wr (wr.alloc (M #[I J rm] 2)):=(Aa _ _).alloc z' _;have own3:=aG own kQ;have hC3:=jE wr rm 2;have hb3:w.heap.size<=(wr.alloc (M #[I J rm] 2)).heap.size:=by have:=hB.size;simp;omega
    have b3:=hB.trans (kQ.mono hB.size);go_wp2_with(at_builtin;go_must (refine bM underlying27 underlying27 hi0 hz0 hz1 hz2 rfl (by omega) (by omega) (.tmp 21) (.tmp 27) ?_ ?_ w.heap.size (Z a' m c') m (icells zs) _ 1 1 (icells [rm]) ?_ ?_ own3 hC3 (dC [rm]) hsum hb3 ?_;exact rfl;exact rfl;exact rfl;exact rfl;intro a5 c5 w5 own5 gr5 at5;go_frame))
    go_roundw;case rel=>rw[<-dW,<-HY.out]at own5;exact⟨k+1,m+1,a5,c5,by omega,by omega,by go_num,rfl,own5,b3.grown gr5 b3.size (fun g hg=>(aH own3 g hg).1)⟩
    case measure=>simp[intOf];omega
  .obtain rfl:k=n:=by omega
   have HWF:Hid (ps.take k=ps):=by have:=HL.out;show _=_;rw[this];exact Be
   rw[HWF.out]at own;go_wp2;go_ret;exact⟨a',m,c',rfl,by omega,own,hB⟩
end Go.Proofs.YtpbbokalojdooaaGreat
