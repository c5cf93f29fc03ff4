/- PROVED: at every list of bytes the law FnReplays returns true and leaves its argument as it was: acts replayed in two parts are as if in one. No condition. -/
import Derived.Test.YtpbbokalojdooaaGreatWbp
import Derived.Test.YtpbbokalojdooaaGreatRows
namespace Go.Proofs.YtpbbokalojdooaaGreat
open Go.RowKit Ch Go.Proofs.Tryz
set_option linter.unusedSimpArgs false
set_option linter.unusedVariables false
set_option maxRecDepth 20000
set_option maxHeartbeats 8000000
open Value renaming int->I,slice->Z,bool->X,agg->U
open IntKind renaming i64->J
open Option renaming none->O,some->Y
open Obj renaming cells->M
open Ending renaming returned->R'
open Bool renaming true->A',false->F'
variable {t:TypeId} {W:World}
theorem dQ7{g:Nat}{u0 u1 u2:Value}(v0 v1 v2:Value)(h:W.heap[g]? =Y (M #[u0,u1,u2] t (0,0))):
  (((W.setCell ⟨g,0,O⟩ v0).setCell ⟨g,1,O⟩ v1).setCell ⟨g,2,O⟩ v2).heap[g]? =Y (M #[v0,v1,v2] t (0,0))/\W.grownBy (((W.setCell ⟨g,0,O⟩ v0).setCell ⟨g,1,O⟩ v1).setCell ⟨g,2,O⟩ v2) (Y g):=by
 have h0:=Ag _ g 0 _ t v0 h;have h1:=Ag _ g 1 _ t v1 h0;exact⟨Ag _ g 2 _ t v2 h1,cM (cM iI)⟩
theorem aN3(a:Option Addr)(n cap:Nat)(zs:List Int)(w:World)(h:CellsAt w a n (bts zs))(hb:IsB zs):
  Calls prog 4 #[Z a n cap] w fun e w'=>e=R' (X A')/\V' w w':=by
 by_cases hbig:(1048576:Int)<n
 .have hd:decide ((1048576:Int)<n)=A':=Fa hbig;have IB:=fun W=>cP5 a n cap W;rw[hd]at IB;go_enter func4,ntmps4
  go_wp2_with fail
  refine(IB _).mono ?_;rintro e w1⟨rfl,rfl⟩;go_wp2;go_ret;exact⟨rfl,Aa _ _⟩
 have hd:decide ((1048576:Int)<n)=F':=Fz hbig;have IB:=fun W=>cP5 a n cap W;rw[hd]at IB;have hn:n<=1048580:=by omega
 clear hd hbig;have HD:=aJ7 a n cap zs w h hb hn;have LA:=fun(N:Nat) (W:World) (hW:V' w W) (h1:1<=N) (h2:N<=200)=>cX3 a n cap N zs W (h.below hW) hb hn h1 h2;clear h hb;go_enter func4,ntmps4
 go_wp2_with fail
 refine(IB _).mono ?_;rintro e w1⟨rfl,hw1⟩;obtain rfl:=hw1.symm;clear IB hw1;go_wp2_with fail
 refine HD.mono ?_;rintro e w1⟨a1,n1,c1,a2,n2,c2,a3,n3,c3,bs,ts,cs,rfl,hn1,hn2,hc2,hm2,hn3,hc3,h1,h2,h3,b1⟩;clear HD;obtain⟨RR,HRR⟩:∃RR,Hid (eS bs ts cs=RR):=⟨_,rfl⟩
 have II:=fun W hW1 hW2 hW3=>qF a1 n1 c1 bs a2 n2 c2 ts a3 n3 c3 cs W hW1 hW2 hW3 hn1 (by omega) (by omega);have SI:=fun W hW1 hW2 hW3=>aP5 a1 n1 c1 bs a2 n2 c2 ts a3 n3 c3 cs W hW1 hW2 hW3 hn1 (by omega) (by omega);rw[HRR.out]at II SI;obtain⟨c,ok,R⟩:=RR;simp only at II SI;go_wp2_with fail
 refine(II _ h1 h2 h3).mono ?_;rintro e w2⟨ra,rm,rc,rfl,hrm,oR,b2⟩;have kR:V' w2 (w2.alloc (M #[I J c,X ok,Z ra rm rc] 49)):=(Aa _ _).alloc z' _;have bV:=(b1.trans (b2.mono b1.size)).trans (kR.mono (b1.trans (b2.mono b1.size)).size);replace h1:=(h1.below b2).below kR;replace h2:=(h2.below b2).below kR;replace h3:=(h3.below b2).below kR;have hR:=(aO oR).below kR;have xR:(w2.alloc (M #[I J c,X ok,Z ra rm rc] 49)).heap[w2.heap.size]? =Y (M #[I J c,X ok,Z ra rm rc] 49 (0,0)):=aP rfl;clear b1 b2 oR kR II;go_wp2_with fail
 refine(SI _ h1 h2 h3).mono ?_;rintro e w3⟨xa,xm,xc,rfl,hxm,oX,b3⟩;have kX:V' w3 (w3.alloc (M #[I J c,X ok,Z xa xm xc] 49)):=(Aa _ _).alloc z' _;have b3x:=b3.trans (kX.mono b3.size);replace bV:=bV.trans (b3x.mono bV.size);replace h1:=h1.below b3x;replace h2:=h2.below b3x;replace h3:=h3.below b3x;replace hR:=hR.below b3x;replace xR:=aR b3x xR;have xX:(w3.alloc (M #[I J c,X ok,Z xa xm xc] 49)).heap[w3.heap.size]? =Y (M #[I J c,X ok,Z xa xm xc] 49 (0,0)):=aP rfl;clear b3 b3x kX oX SI;go_upto_region 6 with fail
 generalize(w3.alloc (M #[I J c,X ok,Z xa xm xc] 49))=V at*;generalize w2.heap.size=br at*;generalize w3.heap.size=bx at*;obtain⟨r0,r1,r2⟩:=cJ3 xR;obtain⟨x0,x1,-⟩:=cJ3 xX;clear xR xX;by_cases h0:c=0;rotate_left
 .have hc:(c !=0)=A':=by simpa using h0
  have hcc:(c==c)=A':=by simp
  clear LA h1 h2 h3 hR HRR;go_wp2;go_ret;exact⟨rfl,bV⟩
 subst h0;have hl3:cs.length=n3:=by have:=h3.1;simp[icells]at this;omega
 have HF:=hid (bT4 (base:=bs) (ts:=ts) (cs:=cs) (by rw[HRR.out]));have hwm:IntKind.i64.wrap ((n3:Int)+1)=(n3:Int)+1:=Br _ ⟨by omega,by omega⟩;have hn40:n3<=40:=by have:=HF.out.2;omega
 have LB:=LA (n3+1) _ bV (by omega) (by omega);rw[show((n3+1:Nat):Int)=(n3:Int)+1 by omega]at LB;go_wp2_with fail
 refine LB.mono ?_;rintro e w4⟨m,hm,rfl,b4⟩;clear LA LB hwm;replace bV:=bV.trans (b4.mono bV.size);replace h1:=h1.below b4;replace h2:=h2.below b4;replace h3:=h3.below b4;replace hR:=hR.below b4;replace r1:=keep_cell b4 r1;replace r2:=keep_cell b4 r2;replace x1:=keep_cell b4 x1;clear b4 r0 x0;have ht3:CellsAt w4 a3 (m*1) (icells (cs.take m)):=by have:=zA h3 (k:=m*1) (by omega);rw[show icells (cs.take m)=(icells cs).take (m*1)by simp[icells,List.map_take]];exact this
 have HI:=hid (aU4 (base:=bs) (ts:=ts) (cs:=cs) (m:=m) (by rw[HRR.out]) (by omega));obtain⟨PA,HPA⟩:∃PA,Hid (eS bs ts (cs.take m)=PA):=⟨_,rfl⟩
 have IA:=qF a1 n1 c1 bs a2 n2 c2 ts a3 m c3 (cs.take m) _ h1 h2 ht3 hn1 (by omega) (by omega);have HI':=HI.out;rw[HPA.out]at IA HI';rw[HRR.out]at HI';obtain⟨cA,okA,RA⟩:=PA;simp only at IA HI';obtain⟨PB,HPB⟩:∃PB,Hid (eS RA ts (cs.drop m)=PB):=⟨_,rfl⟩
 rw[HPB.out]at HI';obtain⟨cB,okB,RB⟩:=PB;simp only at HI';obtain⟨rfl,rfl,rfl,rfl⟩:=HI';clear HI HRR HPA;have hs1:=fun W=>dH1 a3 n3 c3 m (by omega) W;have hs2:=fun W=>dH0 a3 n3 c3 m (by omega) W;go_wp2_with fail
 refine IA.mono ?_;rintro e w5⟨aa,am,ac,rfl,ham,oA,b5⟩;have kA:V' w5 (w5.alloc (M #[I J 0,X okA,Z aa am ac] 49)):=(Aa _ _).alloc z' _;have b5x:=b5.trans (kA.mono b5.size);replace bV:=bV.trans (b5x.mono bV.size);replace h2:=h2.below b5x;replace h3:=h3.below b5x;replace hR:=hR.below b5x;replace r1:=keep_cell b5x r1;replace r2:=keep_cell b5x r2;replace x1:=keep_cell b5x x1;have hA:=(aO oA).below kA;have xA:(w5.alloc (M #[I J 0,X okA,Z aa am ac] 49)).heap[w5.heap.size]? =Y (M #[I J 0,X okA,Z aa am ac] 49 (0,0)):=aP rfl;clear b5 b5x kA oA IA h1 ht3 hs1;go_upto_region 10 with fail
 generalize(w5.alloc (M #[I J 0,X okA,Z aa am ac] 49))=V5 at*;generalize w5.heap.size=ba at*;obtain⟨y0,y1,y2⟩:=cJ3 xA;clear xA;have hdr:=dJ7 h3 (m:=m) (by omega) hc3;have IB:=fun W hW1 hW2 hW3=>qF aa am ac RA a2 n2 c2 ts (adr a3 c3 m) (n3-m) (c3-m) (cs.drop m) W hW1 hW2 hW3 (by omega) (by omega) (by omega);rw[HPB.out]at IB;simp only at IB;have hba:=aD y2;go_cut [10] (fun sl wx=>∃(gb rbm rbc:Nat) (rb:Option Addr),sl= .pointer (Y ⟨gb,0,O⟩)/\wx.heap[gb]? =Y (M #[I J 0,X okB,Z rb rbm rbc] 49 (0,0))/\rbm<=100/\CellsAt wx rb (rbm*3) (rcells RB)/\V' V5 wx)
 case first=>
  refine R0 (fun W'=>W'.cell? ⟨ba,2,O⟩=Y (Z aa am ac)/\V' V5 W') ⟨y2,(Aa _ _).drew⟩ (fun hH=>?_);clear y0 y1 x1 r1 r2 hR h3;generalize V5.drew=V6 at*;refine R5 0 1 2 3 4 ?_;refine R1 5 ?_;refine J2 6 7 (fun K hK=>?_) (fun K hK=>?_);focus
   go_simp;refine(IB _ (hA.below hH.2) (h2.below hH.2) (hdr.below hH.2)).mono ?_;rintro e w6⟨rb,rbm,rbc,rfl,hbm,oB,b6⟩;have bb6:=hH.2.trans (b6.mono hH.2.size);have y26:=keep_cell b6 hH.1;refine hK.out _ _ ⟨y26,bb6⟩ (fun _=>?_);clear hK K;have kB:V' w6 (w6.alloc (M #[I J 0,X F',Z O 0 0] 49)):=(Aa _ _).alloc z' _;have bb7:=bb6.trans (kB.mono bb6.size);have hgb:=bb6.size;refine J3 (J1 7 (fun K hK=>?_));go_simp;refine hK.out _ _ ⟨keep_cell kB y26,bb7⟩ (fun hH7=>?_);clear hK K hH;have xB:(w6.alloc (M #[I J 0,X F',Z O 0 0] 49)).heap[w6.heap.size]? =Y (M #[I J 0,X F',Z O 0 0] 49 (0,0)):=aP rfl;have hB7:=(aO oB).below kB;have hlt:=fun b off (hg:rb=Y ⟨b,off,O⟩)=>(aH oB b (by rw[hg];rfl)).2;clear oB kB y26 bb6 IB b6;generalize w6.alloc (M #[I J 0,X F',Z O 0 0] 49)=W7 at*;generalize w6.heap.size=gb at*;have hne:∀b off,rb=Y ⟨b,off,O⟩->b≠gb:=fun b off hg=>by have:=hlt b off hg;omega
   clear hlt
  rotate_left;focus
   have kB:V' V6 (V6.alloc (M #[I J 0,X F',Z O 0 0] 49)):=(Aa _ _).alloc z' _;have bb7:=hH.2.trans (kB.mono hH.2.size);have hgb:=hH.2.size;have y26:=keep_cell kB hH.1;have xB:(V6.alloc (M #[I J 0,X F',Z O 0 0] 49)).heap[V6.heap.size]? =Y (M #[I J 0,X F',Z O 0 0] 49 (0,0)):=aP rfl;go_simp;refine hK.out _ _ ⟨y26,bb7⟩ (fun _=>?_);clear hK K;refine J3 (J1 6 (fun K hK=>?_));go_simp;refine(IB _ (hA.below bb7) (h2.below bb7) (hdr.below bb7)).mono ?_;rintro e W7⟨rb,rbm,rbc,rfl,hbm,oB,b6⟩;have bb8:=bb7.trans (b6.mono bb7.size);refine hK.out _ _ ⟨keep_cell b6 y26,bb8⟩ (fun hH7=>?_);clear hK K hH;have hgl:=(Ab.1 xB).1;replace xB:=aR b6 xB;have hB7:=aO oB;have hne:∀b off,rb=Y ⟨b,off,O⟩->b≠V6.heap.size:=fun b off hg=>by have:=(aH oB b (by rw[hg];rfl)).1;omega
   clear oB kB y26 IB b6 bb7 hgl;generalize V6.heap.size=gb at*
  rotate_left;all_goals
   obtain⟨q0,q1,q2⟩:=cJ3 xB;obtain⟨f0,f1,f2⟩:=dO8 xB;have hgl:=aD q0;have hput:=dQ7 (I J 0) (X okB) (Z rb rbm rbc) xB;have hb8:V' V5 (((W7.setCell ⟨gb,0,O⟩ (I J 0)).setCell ⟨gb,1,O⟩ (X okB)).setCell ⟨gb,2,O⟩ (Z rb rbm rbc)):=cK hH7.2 hput.2 (fun k hk=>by cases hk;exact hgb) hH7.2.size;have hB8:=kG hB7 hput.2 (fun b off hg e=>hne b off hg (Option.some.inj e).symm);refine J3 ?_;refine J1 8 (fun K hK=>?_);go_simp;refine hK.out _ _ ⟨aK hput.2 hH7.1 (fun e=>by have:gb=ba:=Option.some.inj e;omega),hb8⟩ (fun _=>?_);clear hK K;refine J3 (R7 ?_);go_wp2;go_meet;exact⟨_,_,_,_,rfl,hput.1,hbm,hB8,hb8⟩
 case rest=>
  obtain⟨W9,hwn⟩:∃x:World,x=wc:=⟨_,rfl⟩
  subst hwn;obtain⟨gb,rbm,rbc,rb,rfl,xB,hbm,hB,b9⟩:=hcut;replace bV:=bV.trans (b9.mono bV.size);replace h2:=h2.below b9;replace hR:=hR.below b9;replace r1:=keep_cell b9 r1;replace r2:=keep_cell b9 r2;replace x1:=keep_cell b9 x1;replace y0:=keep_cell b9 y0;replace y1:=keep_cell b9 y1;obtain⟨z0,z1,z2⟩:=cJ3 xB;clear b9 xB y2 hA h3 hdr IB hs2 HPB hba;have IW:=fun W hW=>aM7 a2 n2 c2 1 ts W hW (by omega);rw[aG2 HF.out.1]at IW;simp only at IW;go_wp2_with fail
  refine(IW _ h2).mono ?_;rintro e w10⟨wa,wm,wc,rfl,oW,b10⟩;have kW:V' w10 (w10.alloc (M #[I J 0,Z wa wm wc] 36)):=(Aa _ _).alloc z' _;have b10x:=b10.trans (kW.mono b10.size);replace bV:=bV.trans (b10x.mono bV.size);replace h2:=h2.below b10x;replace hR:=hR.below b10x;replace hB:=hB.below b10x;replace r1:=keep_cell b10x r1;replace r2:=keep_cell b10x r2;replace x1:=keep_cell b10x x1;replace y0:=keep_cell b10x y0;replace y1:=keep_cell b10x y1;replace z0:=keep_cell b10x z0;replace z1:=keep_cell b10x z1;replace z2:=keep_cell b10x z2;have hW:=(aO oW).below kW;have xW:(w10.alloc (M #[I J 0,Z wa wm wc] 36)).cell? ⟨w10.heap.size,1,O⟩=Y (Z wa wm wc):=Ai _ _ 1 _ _ _ (aP rfl);clear b10 b10x kW oW IW;go_upto_region 12 with fail
  generalize(w10.alloc (M #[I J 0,Z wa wm wc] 36))=V9 at*;generalize w10.heap.size=bw at*;have hlw:(wrL ts 1).length=wm:=by have:=hW.1;simp[icells]at this;omega
  have hwm100:wm<=100:=by have:=dA0 ts 1;omega
  have hts:ts.length=n2:=h2.1;go_wp2;go_loopw [12] (fun i wr=>∃q:Nat,q<=wm/\i=I J q/\V' V9 wr) (fun i _=>wm-(intOf i).toNat)
  case atStart=>exact⟨0,Ad _,rfl,Aa _ _⟩
  case round=>
   obtain⟨q,hq,rfl,bq⟩:=hrel;have xWq:=keep_cell bq xW;by_cases hlt:q<wm
   .obtain⟨lb,loff,hwa,hcw⟩:=hW.2 (by omega);obtain⟨key,hkey⟩:∃key,(wrL ts 1)[q]? =Y key:=⟨_,Ao (by omega)⟩
    have qk:V9.cell? ⟨lb,loff+q,O⟩=Y (I J key):=by rw[hcw q (by omega)];simp[icells,hkey]
    have HK:=hid (bI9 (jA HF.out.1).2 (Dv hkey));subst hwa;clear hkey hcw;go_wp2;go_loopw [13,14] (fun iv kv wr2=>∃k:Nat,k<=n2/\kv=I J k/\iv=X (qE ts key k)/\V' V9 wr2) (fun _ kv _=>n2-(intOf kv).toNat)
    case atStart=>exact⟨0,Ad _,rfl,rfl,bq⟩
    case round=>
     obtain⟨k,hk,rfl,rfl,bk⟩:=hrel;by_cases hlk:k<n2
     .obtain⟨b2,off2,an,nn,cn,ha2,hone⟩:=(h2.below bk).act hlk;have HN:=hid (aT2 (ts:=ts) (key:=key) (k:=k) (by omega));obtain⟨t0,t1',t2',t3,t4,-⟩:=hone;generalize aM ts k=tt at*;obtain⟨ttx,tk,ta,tb,tv,tan⟩:=tt;simp only at t0 t1' t2' t3 t4 HN;have IT:=fun W=>tT tk ta tb tv key W;obtain⟨tch,HT⟩:∃tch,Hid (fL tk ta tb tv key=tch):=⟨_,rfl⟩
      rw[HT.out]at IT;have HN':=HN.out;rw[HT.out]at HN';clear HN HT;have hxk:=keep_cell bk xW;have hqk:=keep_cell bk qk;subst ha2;have hbl:=aD t0;clear HK xWq bq;generalize qE ts key k=hv at*;cases hv
      .by_cases ht:ttx=1
       .subst ht;go_upto_region 19 with fail
        refine R0 (fun W'=>W'.cell? ⟨b2,off2+k*6,O⟩=Y (I J 1)/\W'.cell? ⟨b2,off2+k*6+1,O⟩=Y (I J tk)/\W'.cell? ⟨b2,off2+k*6+2,O⟩=Y (I J ta)/\W'.cell? ⟨b2,off2+k*6+3,O⟩=Y (I J tb)/\W'.cell? ⟨b2,off2+k*6+4,O⟩=Y (I J tv)/\W'.cell? ⟨bw,1,O⟩=Y (Z (Y ⟨lb,loff,O⟩) wm wc)/\W'.cell? ⟨lb,loff+q,O⟩=Y (I J key)) ⟨t0,t1',t2',t3,t4,hxk,hqk⟩ (fun hH=>?_);clear t0 t1' t2' t3 t4 hxk hqk;have bU:=bk.trans ((Aa _ _).drew.mono bk.size);clear bk;refine R5 0 1 2 3 4 ?_;refine R5 5 6 7 8 9 ?_;refine R5 10 11 12 13 14 ?_;refine R4 15 16 17 18 ?_;refine J1 19 (fun K hK=>?_);go_simp;refine(IT _).mono ?_;rintro e U2⟨rfl,bt⟩;refine hK.out _ _ ⟨keep_cell bt hH.1,keep_cell bt hH.2.1,keep_cell bt hH.2.2.1,keep_cell bt hH.2.2.2.1,keep_cell bt hH.2.2.2.2.1,keep_cell bt hH.2.2.2.2.2.1,keep_cell bt hH.2.2.2.2.2.2⟩ (fun hH2=>?_);clear hK K hH;refine J3 ?_;refine R3 20 21 22 ?_;refine R7 ?_;clear hH2;go_wp2;go_roundw;case rel=>exact⟨k+1,by omega,by go_num,by rw[HN'];rfl,bU.trans (bt.mono bU.size)⟩
        case measure=>simp[intOf];omega
       .have ht':(ttx==1)=F':=by simpa using ht
        go_upto_region 19 with fail
        refine R0 (fun W'=>W'.cell? ⟨b2,off2+k*6,O⟩=Y (I J ttx)) t0 (fun hH=>?_);clear t0 t1' t2' t3 t4 hxk hqk IT;have bU:=bk.trans ((Aa _ _).drew.mono bk.size);clear bk;refine R5 0 1 2 3 4 ?_;refine R4 5 6 7 8 ?_;refine R9 9 (h:=R9 10 (h:=R9 11 (h:=R9 12 (h:=R9 13 (h:=J3 ?_)))));refine R9 14 (h:=R9 15 (h:=R9 16 (h:=R9 17 (h:=R9 18 (h:=J3 ?_)))));refine R9 19 (h:=R8 20 (h:=R8 21 (h:=R8 22 (h:=J3 ?_))));refine R7 ?_;clear hH;go_wp2;go_roundw;case rel=>exact⟨k+1,by omega,by go_num,by rw[HN',ht'];rfl,bU⟩
        case measure=>simp[intOf];omega
      .go_upto_region 19 with fail
       refine R0 (fun W'=>True) Cm (fun hH=>?_);clear t0 t1' t2' t3 t4 hxk hqk IT;have bU:=bk.trans ((Aa _ _).drew.mono bk.size);clear bk;refine R2 0 1 ?_;refine R9 2 (h:=R9 3 (h:=R9 4 (h:=R9 5 (h:=R9 6 (h:=J3 ?_)))));refine R9 7 (h:=R9 8 (h:=R9 9 (h:=R9 10 (h:=R9 11 (h:=J3 ?_)))));refine R9 12 (h:=R9 13 (h:=R9 14 (h:=R9 15 (h:=R9 16 (h:=J3 ?_)))));refine R9 17 (h:=R9 18 (h:=R9 19 (h:=R9 20 (h:=J3 ?_))));refine R2 21 22 ?_;refine R7 ?_;clear hH;go_wp2;go_roundw;case rel=>exact⟨k+1,by omega,by go_num,by rw[HN'];rfl,bU⟩
       case measure=>simp[intOf];omega
     .obtain rfl:k=n2:=by omega
      have HK':=HK.out;rw[hts]at HK';rw[HK'];clear HK HK';go_wp2;go_roundw;case rel=>exact⟨q+1,by omega,by go_num,bk⟩
      case measure=>simp[intOf];omega
   .obtain rfl:q=wm:=by omega
    go_upto_region 22 with fail
    have IS1:=fun W hW=>aM6 a2 n2 c2 ts W hW (by omega) hc2 hm2;have IS2:=fun W hW=>aP7 a2 n2 c2 ts W hW (by omega);have IW2:=fun W hW=>aP8 a2 n2 c2 1 ts W hW (by omega);rw[aG2 HF.out.1]at IW2;simp only at IW2;have IR:=fun W h h'=>cI0 rb ra rbm rbc rm rc RB RB W h h' (by omega) (by omega);rw[bH3]at IR;have hRR:=hR;clear hR;obtain⟨wl,HWL⟩:∃wl,Hid (wrL ts 1=wl):=⟨_,rfl⟩
    rw[HWL.out]at IW2 hW hlw;have IN:=fun A C W h h'=>bE4 wa A q wc C wl W h h' (by omega);generalize mH ts=sr at IS1 IS2;have hsr:(sr==sr)=A':=by simp
    have hfw:=dD1;have b0:V' V9 wr.drew:=bq.trans ((Aa _ _).drew.mono bq.size);clear bq xWq HWL HF hts;have hbb:(okB==okB)=A':=by simp
    cases okA;all_goals
     simp only[Bool.false_and,Et]at r1 x1;have hS:=fun W (hb:V' V9 W)=>And.intro (keep_cell hb r1) (And.intro (keep_cell hb r2) (And.intro (keep_cell hb x1) (And.intro (keep_cell hb y0) (And.intro (keep_cell hb y1) (And.intro (keep_cell hb z0) (And.intro (keep_cell hb z1) (And.intro (keep_cell hb z2) (And.intro (keep_cell hb xW) hb))))))));clear r1 r2 x1 y0 y1 z0 z1 z2 xW;refine R0 (fun W'=>W'.cell? ⟨br,1,O⟩=Y _/\W'.cell? ⟨br,2,O⟩=Y _/\W'.cell? ⟨bx,1,O⟩=Y _/\W'.cell? ⟨ba,0,O⟩=Y _/\W'.cell? ⟨ba,1,O⟩=Y _/\W'.cell? ⟨gb,0,O⟩=Y _/\W'.cell? ⟨gb,1,O⟩=Y _/\W'.cell? ⟨gb,2,O⟩=Y _/\W'.cell? ⟨bw,1,O⟩=Y _/\V' V9 W') (hS _ b0) (fun hH=>?_);refine R5 0 1 2 3 4 ?_;refine R5 5 6 7 8 9 ?_;refine R3 10 11 12 ?_;refine J1 13 (fun K hK=>?_);go_simp;refine(IR _ (hB.below b0) (hRR.below b0)).mono ?_;rintro e U1⟨rfl,k1⟩;have d1:=b0.trans (k1.mono b0.size);refine hK.out _ _ (hS _ d1) (fun hH1=>?_);clear hK K hH b0 k1;refine J3 ?_;refine R5 14 15 16 17 18 ?_;refine R2 19 20 ?_;first|refine R2 21 22 ?_|refine R9 21 (h:=R9 22 (h:=J3 ?_))
     refine R1 23 ?_;refine R5 24 25 26 27 28 ?_;refine R5 29 30 31 32 33 ?_;refine R2 34 36 ?_;refine J1 35 (fun K hK=>?_);go_simp;refine(IS1 _ (h2.below d1)).mono ?_;rintro e U2⟨rfl,k2⟩;have d2:=d1.trans (k2.mono d1.size);refine hK.out _ _ (hS _ d2) (fun hH2=>?_);clear hK K hH1 d1 k2;refine J3 ?_;refine J1 37 (fun K hK=>?_);go_simp;refine(IS2 _ (h2.below d2)).mono ?_;rintro e U3⟨rfl,k3⟩;have d3:=d2.trans (k3.mono d2.size);refine hK.out _ _ (hS _ d3) (fun hH3=>?_);clear hK K hH2 d2 k3;refine J3 ?_;refine R5 38 39 40 41 42 ?_;refine R1 43 ?_;refine J1 44 (fun K hK=>?_);go_simp;refine(IW2 _ (h2.below d3)).mono ?_;rintro e U4⟨sa,sm,sc,rfl,oS,k4⟩;obtain rfl:sm=q:=by have:=oS.1;simp[icells]at this;omega
     have d4:=d3.trans (k4.mono d3.size);have hSl:=aO oS;refine hK.out _ _ (hS _ d4) (fun hH4=>?_);clear hK K hH3 d3 k4 oS;refine J3 ?_;refine R1 45 ?_;refine J1 46 (fun K hK=>?_);go_simp;refine(IN _ _ _ (hW.below d4) hSl).mono ?_;rintro e U5⟨rfl,k5⟩;have d5:=d4.trans (k5.mono d4.size);refine hK.out _ _ (hS _ d5) (fun hH5=>?_);clear hK K hH4 d4 k5 hSl;refine J3 ?_;refine R2 47 48 ?_;refine R7 ?_;clear hH5 hS;go_wp2;go_ret;exact⟨rfl,bV.trans (d5.mono bV.size)⟩
section
open Go.ChangeShapes Go.WideShapes Go.ChangeAt Go.Joins Go.Deep
set_option maxRecDepth 100000 in
theorem aB5(os:Os)(started:os.Started)(H:Type)(enc:TypeId×Value->H):
  ReturnsInHanded {} checked os 4 .any (Rows.fnReplaysSpec.pre6 enc prog Tryz.f4 Rows.fnReplaysRow.domain F') (Rows.fnReplaysSpec.post enc prog Tryz.f4 F' A' F' F'):=by
 refine returnsInHanded_of_change (C:=checked) Tryz.own started (by kernel_rfl) func4
  (ChangeSpec.witness6 (enc:=enc) (C:=checked) F' ⟨#[],#[Z O 0 0],[]⟩ 8 (by kernel_rfl) (by kernel_rfl) (by kernel_rfl) (by kernel_rfl)) ?_
 intro W base args ds gs before hval0 hW hcnd _;have hval:∀(j:Nat) t v,Tryz.f4.params[j]? =Y t->args[j]? =Y v->Value.okWide prog W .any base t v:=hval0;have hW':=hW;obtain⟨p,q,hA0,hV,rfl,hfz,hnd⟩:=hW;have hA:DataW.TrodAll enc prog W 0 (fun _=>A') A' Tryz.f4.params.toList args.toList ds p:=hA0;rw[params4]at hA hval;obtain⟨v0,d0,rfl,rfl,h0⟩:=trodAll_one hA;obtain⟨rfl,rfl⟩:=trodVars_none hV;have k0:=h0;have lt0:∀x∈p,x.block<W.heap.size:=by obtain⟨m,hm⟩:=k0;exact DataW.trod_lt m _ _ _ hm
 obtain⟨a0,len0,cap0,rfl⟩:=okWide_slice underlying22 (hval 0 22 v0 rfl rfl);obtain⟨zs,hz,hb⟩:=cI5 (by kernel_rfl) h0;clear hA0 hval0;refine(aN3 a0 len0 cap0 zs W hz hb).mono fun e W' ⟨he,bel⟩=>?_;subst he;exact⟨_,rfl,_,_,_,[],_,[],hW',trodAll_mk1 (shut_bool underlying4 _),trodAll_mk1 (Below.trod Tryz.laidOut (by kernel_rfl) (of_decide_eq_true (by kernel_rfl)) k0 bel lt0),rfl,bel.frame _,fun h=>by cases h⟩
theorem fnreplays_holds:Rows.FnReplaysSaid:=
 OpenClaim.holds_of_wide 4 Tryz.f4 rfl rfl rfl rfl rfl rfl rfl ⟨rfl,rfl,rfl,rfl,rfl⟩ rfl rfl rfl rfl rfl (by kernel_rfl) func4 (by kernel_rfl)
  (of_decide_eq_true (by kernel_rfl)) (by unfold Func.isWrapper;first|(rw[if_pos (by decide+kernel)];kernel_rfl)|(rw[if_neg (by decide+kernel)];exact⟨rfl,rfl⟩))
  (fun os started H enc _=>aB5 os started H enc)
end
end Go.Proofs.YtpbbokalojdooaaGreat
