import Derived.Test.YtpbbokalojdooaaGreatWax
import Derived.Test.YtpbbokalojdooaaGreatWbd
import Derived.Test.YtpbbokalojdooaaGreatWbf
namespace Go.Proofs.YtpbbokalojdooaaGreat
open Go.RowKit Ch Go.Proofs.Tryz
set_option linter.unusedSimpArgs false
set_option linter.unusedVariables false
set_option maxRecDepth 20000
set_option maxHeartbeats 8000000
open Value renaming int->I,slice->Z,bool->X,agg->U
open IntKind renaming i64->J
open Option renaming none->O,some->Y
open Obj renaming cells->M
open Ending renaming returned->R'
open Bool renaming true->A',false->F'
variable {cs:Array Value} {s:EgS} {e:Eng} {ls:List Lock} {rs:List Rec} {b g k n o tb:Nat} {T:Nat->Nat} {a:Option Addr} {t:TypeId} {W W' w:World}
theorem bN2{a b:Int}(ha:Ch.isM a=A')(hb:Ch.isM b=A'):Ch.tab rX a b=kU a b:=by unfold kU;rw[ha,hb];rfl
theorem cB2(h:aT ls=0){i:Nat}(hi:i<ls.length):(aI ls i).hs.length<=20/\(aI ls i).qs.length<=20/\bO (aI ls i).hs=A'/\bO (aI ls i).qs=A':=by have:=fU (iM ((eT h).1 i hi)).2.2.2;exact⟨this.1,this.2.1,this.2.2.1,this.2.2.2.1⟩
def EdgD(ls:List Lock)(w:World)(e:Ending)(w':World):Prop:=
 ∃g m c,e=R' (Z (Y ⟨g,0,O⟩) m c)/\m<=100000/\w'.ownsRow w.heap.size 274 2 (Z (Y ⟨g,0,O⟩) m c) m (hcells (eW (gW ls)))/\V' w w'
theorem bQ0(a:Option Addr)(n cap:Nat)(ls:List Lock)(w:World)(h:LkAt w a n ls)(hg:aT ls=0):
  Calls prog 183 #[Z a n cap] w fun e w'=>EdgD ls w e w':=by
 have HL:=h.len;have HG:=hid hg;have hn:n<=101:=by have:=nC hg;have:=HL.out;omega
 obtain⟨W0,hW0⟩:∃W0,w.heap.size=W0:=⟨_,rfl⟩
 have oE:=nZ w 274 2;rw[hW0]at oE;have kE:V' w (w.alloc (M #[] 274)):=(Aa _ _).alloc z' _;clear hg;go_enter func183,ntmps183
 go_wp2;go_loopw [3,4] (fun q i wr=>∃(I' m g c:Nat),I'<=n/\i=I J I'/\q=Z (Y ⟨g,0,O⟩) m c/\wr.ownsRow W0 274 2 (Z (Y ⟨g,0,O⟩) m c) m (hcells (eW (gW (ls.take I'))))/\m<=800*I'/\V' w wr) (fun _ i _=>n-(intOf i).toNat)
 case atStart=>exact⟨0,0,_,0,Ad _,rfl,rfl,oE,z',kE⟩
 case round=>
  clear oE kE;obtain⟨I',m,g,c,hI,rfl,rfl,own,hm,hB⟩:=hrel;generalize wr=wA at*;by_cases hlt:I'<n
  .have hIl:I'<ls.length:=by have:=HL.out;omega
   have HGK:=hid (cB2 HG.out hIl);have HAN:=hid (bW0 hIl);obtain⟨b,off,ah,nh,ch,aq,nq,cq,rfl,c0,c1,c2,h3,h4,_,_,_,_⟩:=(h.below hB).lock hlt;have HQN:=hid (fun k=>aZ7 (aI ls I') k);generalize aI ls I'=l at*;obtain⟨r,hs,qs⟩:=l;simp only at c0 h3 h4 HGK HAN HQN;have HH:=h3.hlen;have HQ:=h4.hlen;have hnh:nh<=20:=by have:=HGK.out.1;have:=HH.out;omega
   have hnq:nq<=20:=by have:=HGK.out.2.1;have:=HQ.out;omega
   have hbl:=aD c0;have hq0:Hid (gW (ls.take I')++pV ⟨r,hs,qs⟩ 0=gW (ls.take I')):=by show _=_;simp[pV]
   obtain⟨A0,HA0⟩:∃A0,Hid (gW (ls.take I')=A0):=⟨_,rfl⟩
   rw[HA0.out]at own HAN hq0;obtain⟨QE,HQE⟩:∃QE:Nat->List Hold,Hid (∀k,pV ⟨r,hs,qs⟩ k=QE k):=⟨_,fun _=>rfl⟩
   rw[HQE.out]at hq0 HAN;have HQN2:Hid (∀k,QE (k+1)=QE k++(jL (qs.getD k Hold.zero) hs++kS (qs.getD k Hold.zero) (qs.take k))):=fun k=>by rw[<-HQE.out,<-HQE.out];exact HQN.out k
   clear HQN HQE;go_wp2;go_loopw [3,6] (fun q i wx=>∃(k m g c:Nat),k<=nq/\i=I J k/\q=Z (Y ⟨g,0,O⟩) m c/\wx.ownsRow W0 274 2 (Z (Y ⟨g,0,O⟩) m c) m (hcells (eW (A0++QE k)))/\m<=800*I'+40*k/\V' wA wx) (fun _ i _=>nq-(intOf i).toNat)
   case atStart=>exact⟨0,m,g,c,Ad _,rfl,rfl,by rw[hq0.out];exact own,by omega,Aa _ _⟩
   case round=>
    clear own hm hq0;obtain⟨k,m,g,c,hk,rfl,rfl,own,hm,hX⟩:=hrel;generalize wr=wx at*;have p1:=keep_cell hX c1;have p2:=keep_cell hX c2;have hbx:=aD p1;by_cases hlk:k<nq
    .have hkl:k<qs.length:=by have:=HQ.out;omega
     have HQK:=hid (HQN2.out k);have HNQ:=hid (jX (jT HGK.out.2.2.2 hkl));obtain⟨qb,qo,rfl,q0,q1⟩:=(h4.below hX).hold hlk;have hqb:=aD q0;generalize qs.getD k Hold.zero=qq at*;obtain⟨qt,qm⟩:=qq;simp only at q0 q1 HNQ;have kB:V' wx (wx.alloc (M #[I J qt,I J qm] 232)):=(Aa _ _).alloc z' _;obtain⟨z0,z1,_,_⟩:=cJ2 (Ar wx (M #[I J qt,I J qm] 232));have own1:=aG own kB;have hX1:=hX.trans (kB.mono hX.size);have s1:=keep_cell kB p1;have s2:=keep_cell kB p2;have ls1:=aD s1;have lz:=aD z0;obtain⟨PX,hPX⟩:∃PX,wx.heap.size=PX:=⟨_,rfl⟩
     go_wp2;clear own q0 q1 kB p1 p2 hbx;rw[hPX]at z0 z1 lz;generalize wx.alloc (M #[I J qt,I J qm] 232)=X' at*;go_loopw [3,8] (fun q i wy=>∃(j m g c:Nat),j<=nh/\i=I J j/\q=Z (Y ⟨g,0,O⟩) m c/\wy.ownsRow W0 274 2 (Z (Y ⟨g,0,O⟩) m c) m (hcells (eW (A0++QE k++jL ⟨qt,qm⟩ (hs.take j))))/\m<=800*I'+40*k+j/\V' X' wy) (fun _ i _=>nh-(intOf i).toNat)
     case atStart=>exact⟨0,m,g,c,Ad _,rfl,rfl,by simpa[jL]using own1,by omega,Aa _ _⟩
     case round=>
      clear own1 hm;obtain⟨j,m,g,c,hj,rfl,rfl,own,hm,hY⟩:=hrel;generalize wr=wy at*;have t1:=keep_cell hY s1;have t2:=keep_cell hY s2;have y0:=keep_cell hY z0;have y1:=keep_cell hY z1;have lt1:=aD t1;have ly:=aD y0;have hXY:=hX1.trans (hY.mono hX1.size);by_cases hlj:j<nh
      .have hjl:j<hs.length:=by have:=HH.out;omega
       have HNH:=hid (jX (jT HGK.out.2.2.1 hjl));have HWY:=hid (fun he=>bX8 (q:=⟨qt,qm⟩) hjl he);have HWN:=hid (fun he=>cS8 (q:=⟨qt,qm⟩) hjl he);obtain⟨hb,ho,rfl,r0,r1⟩:=(h3.below hXY).hold hlj;have hhb:=aD r0;generalize hs.getD j Hold.zero=hh at*;obtain⟨rt,rm⟩:=hh;simp only at r0 r1 HNH HWY HWN;obtain⟨f,HF⟩:∃f,Hid (kU rm qm=f):=⟨_,rfl⟩
       have IF:=fun W=>aY2 rm qm W HNH.out.1 HNQ.out.1;rw[bN2 HNH.out.1 HNQ.out.1,HF.out]at IF;rw[HF.out]at HWY HWN;by_cases h1:rt=qt
       .have e1:(rt !=qt)=F':=by simpa using h1
        replace HWN:=hid (HWN.out (by rw[e1];rfl));clear HWY h1;go_wp2_with fail
        refine R0 (fun W'=>W'.cell? ⟨b,off+I'*3+1,O⟩=Y (Z (Y ⟨hb,ho,O⟩) nh ch)/\W'.cell? ⟨PX,0,O⟩=Y (I J qt)/\W'.cell? ⟨PX,1,O⟩=Y (I J qm)/\W'.cell? ⟨hb,ho+j*2,O⟩=Y (I J rt)/\W'.cell? ⟨hb,ho+j*2+1,O⟩=Y (I J rm)/\V' X' W') (⟨t1,y0,y1,r0,r1,hY.drew⟩) (fun hH=>?_);refine R5 0 1 2 3 4 ?_;refine R5 5 6 7 8 9 ?_;refine R8 10 (h:=R8 11 (h:=R9 12 (h:=R9 13 (h:=R9 14 (h:=J3 ?_)))));refine R9 15 (h:=R9 16 (h:=R9 17 (h:=R9 18 (h:=R9 19 (h:=J3 ?_)))));refine R9 20 (h:=R9 21 (h:=R9 22 (h:=R9 23 (h:=R8 24 (h:=J3 ?_)))));refine R7 ?_;go_wp2;go_roundw;case rel=>exact⟨j+1,m,g,c,by omega,by go_num,rfl,by rw[HWN.out];exact aG own ((Aa _ _).drew),by omega,hH.2.2.2.2.2⟩
        case measure=>simp[intOf];omega
       have e1:(rt !=qt)=A':=by simpa using h1
       clear h1;cases f
       .replace HWY:=hid (HWY.out (by rw[e1];rfl));clear HWN;go_wp2_with fail
        refine R0 (fun W'=>W'.cell? ⟨b,off+I'*3+1,O⟩=Y (Z (Y ⟨hb,ho,O⟩) nh ch)/\W'.cell? ⟨PX,0,O⟩=Y (I J qt)/\W'.cell? ⟨PX,1,O⟩=Y (I J qm)/\W'.cell? ⟨hb,ho+j*2,O⟩=Y (I J rt)/\W'.cell? ⟨hb,ho+j*2+1,O⟩=Y (I J rm)/\V' X' W') (⟨t1,y0,y1,r0,r1,hY.drew⟩) (fun hH=>?_);refine R5 0 1 2 3 4 ?_;refine R5 5 6 7 8 9 ?_;refine R5 10 11 12 13 14 ?_;refine R5 15 16 17 18 19 ?_;refine R2 20 21 ?_;refine R6 22 (fun K hK=>?_);go_simp;refine(IF _).mono ?_;rintro e w2⟨rfl,rfl⟩;go_wp2_with fail
        refine hK.out _ _ ?_ (fun hH=>?_)
        .exact hH
        clear hK K;refine R2 23 24 ?_;refine R7 ?_;have ownD:=aG own ((Aa wy.heap.size wy).drew);have hm1:m<=1048576:=by omega
        clear own r0 r1 t1 t2 y0 y1 hY hXY;go_wp2_with fail
        generalize wy.drew=Y' at*;refine R0 (fun W'=>W'.cell? ⟨b,off+I'*3+1,O⟩=Y (Z (Y ⟨hb,ho,O⟩) nh ch)/\W'.cell? ⟨PX,0,O⟩=Y (I J qt)/\W'.cell? ⟨PX,1,O⟩=Y (I J qm)/\W'.cell? ⟨hb,ho+j*2,O⟩=Y (I J rt)/\W'.cell? ⟨hb,ho+j*2+1,O⟩=Y (I J rm)/\V' X' W') (⟨hH.1,hH.2.1,hH.2.2.1,hH.2.2.2.1,hH.2.2.2.2.1,hH.2.2.2.2.2.drew⟩) (fun hH=>?_);refine R5 0 1 2 3 4 ?_;refine R5 5 6 7 8 9 ?_;refine R2 10 11 ?_;refine R6 12 (fun K hK=>?_);have ownE:=aG ownD ((Aa Y'.heap.size Y').drew);have hB9:W0<=Y'.drew.heap.size:=by have:=(aH ownE g rfl);omega
        go_simp;refine(aY3 W0 g m c _ qt rt _ ownE hm1 hB9).mono ?_;rintro e w9⟨g9,m9,c9,rfl,own9,hm9,b9⟩;go_wp2_with fail
        refine hK.out _ _ ?_ (fun hH=>?_)
        .exact⟨keep_cell b9 hH.1,keep_cell b9 hH.2.1,keep_cell b9 hH.2.2.1,keep_cell b9 hH.2.2.2.1,keep_cell b9 hH.2.2.2.2.1,hH.2.2.2.2.2.trans (b9.mono hH.2.2.2.2.2.size)⟩
        clear hK K;refine R1 13 ?_;refine R7 ?_;go_wp2;go_roundw;case rel=>exact⟨j+1,m9,g9,c9,by omega,by go_num,rfl,by rw[HWY.out,<-Bw,uC];exact own9,by omega,hH.2.2.2.2.2⟩
        case measure=>simp[intOf];omega
       .replace HWN:=hid (HWN.out (by rw[e1];rfl));clear HWY;go_wp2_with fail
        refine R0 (fun W'=>W'.cell? ⟨b,off+I'*3+1,O⟩=Y (Z (Y ⟨hb,ho,O⟩) nh ch)/\W'.cell? ⟨PX,0,O⟩=Y (I J qt)/\W'.cell? ⟨PX,1,O⟩=Y (I J qm)/\W'.cell? ⟨hb,ho+j*2,O⟩=Y (I J rt)/\W'.cell? ⟨hb,ho+j*2+1,O⟩=Y (I J rm)/\V' X' W') (⟨t1,y0,y1,r0,r1,hY.drew⟩) (fun hH=>?_);refine R5 0 1 2 3 4 ?_;refine R5 5 6 7 8 9 ?_;refine R5 10 11 12 13 14 ?_;refine R5 15 16 17 18 19 ?_;refine R2 20 21 ?_;refine R6 22 (fun K hK=>?_);go_simp;refine E' (IF _) ?_;go_wp2_with fail
        refine hK.out _ _ ?_ (fun hH=>?_)
        .exact hH
        clear hK K;refine R2 23 24 ?_;refine R7 ?_;go_wp2;go_roundw;case rel=>exact⟨j+1,m,g,c,by omega,by go_num,rfl,by rw[HWN.out];exact aG own ((Aa _ _).drew),by omega,hH.2.2.2.2.2⟩
        case measure=>simp[intOf];omega
      .obtain rfl:j=nh:=by omega
       have HTK:Hid (hs.take j=hs):=by have:=HH.out;show _=_;rw[this];exact Be
       rw[HTK.out]at own;have ha0:Hid (A0++QE k++jL ⟨qt,qm⟩ hs++kS ⟨qt,qm⟩ (qs.take 0)=A0++QE k++jL ⟨qt,qm⟩ hs):=by show _=_;simp[kS]
       obtain⟨A1,HA1⟩:∃A1,Hid (A0++QE k++jL ⟨qt,qm⟩ hs=A1):=⟨_,rfl⟩
       rw[HA1.out]at own ha0;go_wp2;go_loopw [3,9] (fun q i wz=>∃(d m g c:Nat),d<=k/\i=I J d/\q=Z (Y ⟨g,0,O⟩) m c/\wz.ownsRow W0 274 2 (Z (Y ⟨g,0,O⟩) m c) m (hcells (eW (A1++kS ⟨qt,qm⟩ (qs.take d))))/\m<=800*I'+40*k+20+d/\V' wy wz) (fun _ i _=>k-(intOf i).toNat)
       case atStart=>exact⟨0,m,g,c,Ad _,rfl,rfl,by rw[ha0.out];exact own,by omega,Aa _ _⟩
       case round=>
        clear own hm ha0;obtain⟨d,m,g,c,hd,rfl,rfl,own,hm,hZ⟩:=hrel;generalize wr=wz at*;by_cases hld:d<k
        .have hdl:d<qs.length:=by omega
         have hdn:d<nq:=by omega
         have HAH:=hid (aV3 (q:=⟨qt,qm⟩) hdl);obtain⟨db,dd,hde,r0,r1⟩:=((h4.below hXY).below hZ).hold (show d<nq by omega);simp only[Af,Ap,Cn]at hde;obtain⟨rfl,rfl⟩:=hde;have hhb:=aD r0;generalize qs.getD d Hold.zero=hh at*;obtain⟨rt,rm⟩:=hh;simp only at r0 r1 HAH;have u2:=keep_cell hZ t2;have v0:=keep_cell hZ y0;have lu:=aD u2;have lv:=aD v0;have hm1:m<=1048576:=by omega
         have ownD:=aG own ((Aa wz.heap.size wz).drew);clear own;go_wp2_with fail
         refine R0 (fun W'=>W'.cell? ⟨b,off+I'*3+2,O⟩=Y (Z (Y ⟨qb,qo,O⟩) nq cq)/\W'.cell? ⟨PX,0,O⟩=Y (I J qt)/\W'.cell? ⟨qb,qo+d*2,O⟩=Y (I J rt)/\V' wy W') (⟨u2,v0,r0,hZ.drew⟩) (fun hH=>?_);refine R5 0 1 2 3 4 ?_;refine R5 5 6 7 8 9 ?_;refine R2 10 11 ?_;refine R6 12 (fun K hK=>?_);have hB9:W0<=wz.drew.heap.size:=by have:=(aH ownD g rfl);omega
         go_simp;refine(aY3 W0 g m c _ qt rt _ ownD hm1 hB9).mono ?_;rintro e w9⟨g9,m9,c9,rfl,own9,hm9,b9⟩;go_wp2_with fail
         refine hK.out _ _ ?_ (fun hH=>?_)
         .exact⟨keep_cell b9 hH.1,keep_cell b9 hH.2.1,keep_cell b9 hH.2.2.1,hH.2.2.2.trans (b9.mono hH.2.2.2.size)⟩
         clear hK K;refine R1 13 ?_;refine R7 ?_;go_wp2;go_roundw;case rel=>exact⟨d+1,m9,g9,c9,by omega,by go_num,rfl,by rw[HAH.out,<-Bw,uC];exact own9,by omega,hH.2.2.2⟩
         case measure=>simp[intOf];omega
        .obtain rfl:d=k:=by omega
         go_wp2;go_roundw;case rel=>exact⟨d+1,m,g,c,by omega,by go_num,rfl,by rw[HQK.out];rw[<-HA1.out]at own;simpa only[Bw]using own,by omega,hXY.trans (hZ.mono hXY.size)⟩
         case measure=>simp[intOf];omega
    .obtain rfl:k=nq:=by omega
     go_wp2;go_roundw;case rel=>exact⟨I'+1,m,g,c,by omega,by go_num,rfl,by rw[HAN.out,<-HQ.out];exact own,by omega,hB.trans (hX.mono hB.size)⟩
     case measure=>simp[intOf];omega
  .obtain rfl:I'=n:=by omega
   have HTK:Hid (ls.take I'=ls):=by have:=HL.out;show _=_;rw[this];exact Be
   rw[HTK.out]at own;go_wp2;go_ret;exact⟨g,m,c,rfl,by omega,hW0▸own,hB⟩
theorem Stp.own8{T':Nat->Nat}{cs':Array Value}(h:Stp T T' w W o cs cs')(hg:W.grownBy W' (Y g))(hT:T' g=8)(hge:w.heap.size<=g):Stp T T' w W' o cs cs':=
 ⟨hg.os.trans h.os,hg.tape.trans h.tape,hg.output.trans h.output,Ak h.size hg.size,h.k0.trans (gC hg hT (by decide)) h.size,fun x hx ht=>by obtain⟨h1,h2⟩:=h.k8 x hx ht;have:=h.size;exact⟨(hg.block x (by omega) (fun he=>by simp at he;omega)).trans h1,h2⟩,h.rest,h.same⟩
theorem EgX.own8(h:EgX W T b o cs t s e)(hg:W.grownBy W' (Y g))(hT:T g=8):EgX W' T b o cs t s e:=by obtain⟨h4,h5⟩:=bJ h.box h.tag (gC hg hT (by decide:1≠8));exact⟨h.own.kept (fun k _ h8=>gC hg hT h8),h4,h.cell,h5⟩
theorem EgX.tb2(h:EgX W T b o cs t s e)(ha:s.ta=Y ⟨tb,0,O⟩)(_:k<s.tn):T tb=2:=by obtain⟨us,hT⟩:=h.own.tx;rw[ha]at hT;obtain⟨_,⟨_,hr,_⟩,_,_⟩:=hT;exact hr.2 tb rfl
theorem dM0(rs:List Rec)(k j:Nat)(h:k<rs.length)(hj:j<7):(rc7 rs)[k*7+j]? =(c7 (rs.getD k Rec.zero))[j]? :=by
 induction rs generalizing k with
 |nil=>simp at h
 |cons r rs ih=>
  cases k with
  |zero=>simp only[rc7,Cc,Ep,Al];rw[Av (by simp[c7];omega)];rfl
  |succ k=>have:=ih k (by simpa using h);simp only[rc7,Cc]at*;rw[Ay (by simp[c7];omega)];rw[show(k+1)*7+j-(c7 r).length=k*7+j by simp[c7];omega];simpa using this
theorem CellsAt.recN(h:CellsAt w a (n*7) (rc7 rs)):Hid (n=rs.length):=by show n=rs.length;have:=h.1;rw[cR8]at this;omega
theorem CellsAt.recE(h:CellsAt w a (n*7) (rc7 rs))(hk:k<n):
  ∃b off,a=Y ⟨b,off,O⟩/\w.cell? ⟨b,off+k*7,O⟩=Y (I J (rs.getD k Rec.zero).kd)/\w.cell? ⟨b,off+k*7+1,O⟩=Y (I J (rs.getD k Rec.zero).tx)/\w.cell? ⟨b,off+k*7+2,O⟩=Y (I J (rs.getD k Rec.zero).ky)/\w.cell? ⟨b,off+k*7+3,O⟩=Y (X (rs.getD k Rec.zero).hd)/\w.cell? ⟨b,off+k*7+4,O⟩=Y (I J (rs.getD k Rec.zero).ol)/\w.cell? ⟨b,off+k*7+5,O⟩=Y (X (rs.getD k Rec.zero).hs)/\w.cell? ⟨b,off+k*7+6,O⟩=Y (I J (rs.getD k Rec.zero).nw):=by
 have hl:=h.recN.out;obtain⟨b,off,ha,hc⟩:=h.2 (by omega);have c:=fun j (hj:j<7)=>(hc (k*7+j) (by omega)).trans (dM0 rs k j (by omega) hj);simp only[<-Dm]at c;exact⟨b,off,ha,c 0 (by decide),c 1 (by decide),c 2 (by decide),c 3 (by decide),c 4 (by decide),c 5 (by decide),c 6 (by decide)⟩
theorem EgX.cellsTx(h:EgX W T b o cs t s e)(ha:s.ta=Y ⟨tb,0,O⟩)(hk:k<s.tn):
  (∃v,W.cell? ⟨tb,k*8+2,O⟩=Y v)/\(∃v,W.cell? ⟨tb,k*8+3,O⟩=Y v)/\(∃v,W.cell? ⟨tb,k*8+4,O⟩=Y v)/\(∃v,W.cell? ⟨tb,k*8+5,O⟩=Y v)/\(∃v,W.cell? ⟨tb,k*8+6,O⟩=Y v)/\(∃v,W.cell? ⟨tb,k*8+7,O⟩=Y v)/\∀i,W.frozen? ⟨tb,i,O⟩=F':=by
 obtain⟨us,hT⟩:=h.own.tx;obtain⟨_,⟨cs',hr,_⟩,_,_⟩:=id hT;obtain⟨b1,off,au,nu,cu,ha1,t0,t1,t2,t3,t4,t5,t6,t7,_,_⟩:=hT.at.txn hk;rw[ha]at ha1 hr;simp at ha1;obtain⟨rfl,rfl⟩:=ha1;rw[Al]at t2 t3 t4 t5 t6 t7;refine⟨⟨_,t2⟩,⟨_,t3⟩,⟨_,t4⟩,⟨_,t5⟩,⟨_,t6⟩,⟨_,t7⟩,fun i=>?_⟩;rcases hr.1.2 with⟨h0,_⟩|⟨g,cap,cur,hv,hb,hc,_⟩
 .simp at h0
 .simp only[Bg,Af,Ap]at hv;obtain⟨⟨rfl,_⟩,_⟩:=hv;exact An _ _ _ _ _ hc
theorem tA{u0 u1 u2:Value}(h:W.heap[g]? =Y (M #[u0,u1,u2] t (0,0))):W.cell? ⟨g,0,O⟩=Y u0/\W.cell? ⟨g,1,O⟩=Y u1/\W.cell? ⟨g,2,O⟩=Y u2:=
 ⟨C' h,C' h,C' h⟩
structure EgC(d a:Nat)(s s':EgS)(e e':Eng):Prop where
 lv:aL e'.lv=0
 tn:s'.tn=s.tn
 sn:s'.sn=s.sn
 mn:s'.mn=s.mn
 on:s'.on<=s.on+d*451
 xn:s'.xn<=s.xn+d*41
 an:s'.an<=s.an+a
 un:∀i,(aS e'.tx i).un=(aS e.tx i).un\/(aS e'.tx i).un=[]
 tl:e'.tx.length=e.tx.length
def dP9(tx:Int)(T:Nat->Nat)(w:World)(b o:Nat)(cs:Array Value)(t:TypeId)(s:EgS)(e:Eng)(r:Ending)(w':World):Prop:=
 r=R' (.tuple #[])/\∃T' cs' s' e',EgX w' T' b o cs' t s' e'/\Stp T T' w w' o cs cs'/\EgC 1 0 s s' e e'/\e'.lk=(dN e.lk tx).filter iF/\s'.an=s.an
theorem EgX.wipe(h:EgX w T b o cs t s e)(ha:s.ta=Y ⟨tb,0,O⟩)(hk:k<s.tn):
  ∃e',EgX ((((((w.setCell ⟨tb,k*8+3,O⟩ (Z O 0 0)).setCell ⟨tb,k*8+2,O⟩ (I J 4)).setCell ⟨tb,k*8+4,O⟩ (I J 0)).setCell ⟨tb,k*8+4+1,O⟩ (I J 0)).setCell ⟨tb,k*8+4+2,O⟩ (I J 0)).setCell ⟨tb,k*8+4+3,O⟩ (I J 0)) T b o cs t s e'/\
   Stp T T w ((((((w.setCell ⟨tb,k*8+3,O⟩ (Z O 0 0)).setCell ⟨tb,k*8+2,O⟩ (I J 4)).setCell ⟨tb,k*8+4,O⟩ (I J 0)).setCell ⟨tb,k*8+4+1,O⟩ (I J 0)).setCell ⟨tb,k*8+4+2,O⟩ (I J 0)).setCell ⟨tb,k*8+4+3,O⟩ (I J 0)) o cs cs/\
   e'.lv=e.lv/\e'.lk=e.lk/\(∀i,(aS e'.tx i).un=(aS e.tx i).un\/(aS e'.tx i).un=[])/\e'.tx.length=e.tx.length:=by
 have hkl:k<e.tx.length:=by obtain⟨us,hT⟩:=h.own.tx;rw[hT.len];exact hk
 have h1:=h.noUndo ha hk;have E:∀{w:World} {e:Eng} (h:EgX w T b o cs t s e) (hkl:k<e.tx.length) (j:Nat) (v:Value) (t':Tx) (hj:j<8),(∀x i,i<8->tx8 t' x i=if i=j then v else tx8 (aS e.tx k) x i)->t'.un=(aS e.tx k).un->
   EgX (w.setCell ⟨tb,k*8+j,O⟩ v) T b o cs t s {e with tx:=e.tx.set k t'}/\Stp T T w (w.setCell ⟨tb,k*8+j,O⟩ v) o cs cs/\(∀i,(aS (e.tx.set k t') i).un=(aS e.tx i).un):=by
  intro w e h hkl j v t' hj hv hu;have h2:=h.setTx ha hk hj hv hu;refine⟨h2.1,h2.2,fun i=>?_⟩;rw[iE _ _ _ _ hkl];split
  .rename_i he;subst he;exact hu
  .rfl
 have u1:∀i,(aS (e.tx.set k {aS e.tx k with un:=[]}) i).un=(aS e.tx i).un\/(aS (e.tx.set k {aS e.tx k with un:=[]}) i).un=[]:=by
  intro i;rw[iE _ _ _ _ hkl];split
  .exact .inr rfl
  .exact .inl rfl
 have C:∀(P:Nat->Prop),P 0->P 1->P 2->P 3->P 4->P 5->P 6->P 7->∀i,i<8->P i:=by
  intro P p0 p1 p2 p3 p4 p5 p6 p7 i hi;match i,hi with
  |0,_=>exact p0
  |1,_=>exact p1
  |2,_=>exact p2
  |3,_=>exact p3
  |4,_=>exact p4
  |5,_=>exact p5
  |6,_=>exact p6
  |7,_=>exact p7
 have h2:=E h1.1 (by simpa using hkl) 2 (I J 4) {aS _ k with st:=4} (by decide) (fun x=>C _ rfl rfl rfl rfl rfl rfl rfl rfl) rfl;have h3:=E h2.1 (by simpa using hkl) 4 (I J 0) {aS _ k with wk:=0} (by decide) (fun x=>C _ rfl rfl rfl rfl rfl rfl rfl rfl) rfl;have h4:=E h3.1 (by simpa using hkl) 5 (I J 0) {aS _ k with wa:=0} (by decide) (fun x=>C _ rfl rfl rfl rfl rfl rfl rfl rfl) rfl;have h5:=E h4.1 (by simpa using hkl) 6 (I J 0) {aS _ k with wb:=0} (by decide) (fun x=>C _ rfl rfl rfl rfl rfl rfl rfl rfl) rfl;have h6:=E h5.1 (by simpa using hkl) 7 (I J 0) {aS _ k with wv:=0} (by decide) (fun x=>C _ rfl rfl rfl rfl rfl rfl rfl rfl) rfl;refine⟨_,h6.1,((((h1.2.trans h2.2.1).trans h3.2.1).trans h4.2.1).trans h5.2.1).trans h6.2.1,rfl,rfl,fun i=>?_,by simp⟩;have e1:=(h6.2.2 i).trans ((h5.2.2 i).trans ((h4.2.2 i).trans ((h3.2.2 i).trans (h2.2.2 i))));rcases u1 i with h7|h7
 .exact .inl (e1.trans h7)
 .exact .inr (e1.trans h7)
def gwD(j:Nat):Nat:=match j with|9=>23|_=>5
def gwE:List Nat:=[9,10]
def gwP(_:Nat):List Nat:=[]
theorem cB3:(gwE.all fun i=>gwE.all fun j=>gwD i !=gwD j||i==j)=A':=by kernel_rfl
theorem dD6:gwE.Nodup:=by decide
def GwR(H:Nat)(rc:Int)(nl:List (List Row))(rs:List Rec)(j:Nat)(v:Value)(T:Nat->Nat)(w:World):Prop:=match j with
 |9=>∃a1 m1 c1 a2 m2 c2,v=U #[I J rc,Z a1 m1 c1,Z a2 m2 c2]/\LvAt (gU (Ice T) w) a1 m1 nl/\CellsAt (gU (Ice T) w) a2 (m2*7) (rc7 rs)
 |_=>∃g,v= .pointer (Y ⟨g,0,O⟩)/\w.heap[g]? =Y (M #[I J 0,Z O 0 0,Z O 0 0] 285 (0,0))/\T g=8/\H<=g
theorem GwR.mono(H:Nat)(rc:Int)(nl:List (List Row))(rs:List Rec):∀j v T T' w w',GwR H rc nl rs j v T w->(∀k,Kp k T T' w w')->w.heap.size<=w'.heap.size->GwR H rc nl rs j v T' w':=by
 intro j v T T' w w' h hk _;unfold GwR at*;split at h
 .obtain⟨a1,m1,c1,a2,m2,c2,h1,h2,h3⟩:=h;exact⟨a1,m1,c1,a2,m2,c2,h1,h2.sub (eE (hk 0)),h3.sub (eE (hk 0))⟩
 .obtain⟨g,h1,h2,h3,h6⟩:=h;obtain⟨h4,h5⟩:=bJ h2 h3 (hk 8);exact⟨g,h1,h4,h5,h6⟩
theorem aK6(tx:Int)(k:Nat)(w:World)(T:Nat->Nat)(b o:Nat)(cs:Array Value)(t:TypeId)(s:EgS)(e:Eng)(h:EgX w T b o cs t s e)(hk:k<s.tn)(htx:tx=(k:Int)+1)(ht:inB tx 1 999=A')(hlv:aL e.lv=0)(hlk:aT e.lk=0)(hbf:cY (aS e.tx k).un=0)(hon:s.on+500<=4100000)(hxn:s.xn+50<=1048575):
  Calls prog 207 #[.pointer (Y ⟨b,o,O⟩),I J tx] w (dP9 tx T w b o cs t s e):=by
 have hn4:=h.own.n4;have hw:IntKind.i64.wrap (tx-1)=(k:Int):=by rw[htx,show(k:Int)+1-1=(k:Int)by omega];exact Br _ ⟨by omega,by omega⟩
 have HTX:=hid htx;clear htx;obtain⟨us,hT⟩:=h.own.tx;obtain⟨tb,hta⟩:=hT.place (by omega);obtain⟨g0,off,au,nu,cu,ha0,t0,t1,t2,t3,t4,t5,t6,t7,hU,hnu0⟩:=hT.at.txn hk;rw[hta]at ha0;obtain⟨hg0,ho0⟩:g0=tb/\off=0:=by simp at ha0;exact⟨ha0.1.symm,ha0.2.symm⟩
 rw[hg0,ho0,Al]at t3;clear ha0 t0 t1 t2 t4 t5 t6 t7 hg0 ho0;obtain⟨hfew,hb1⟩:=aC7 hbf;have HUn:=hU.bflen;have hnu:nu<=40:=by have:=HUn.out;omega
 have hback:=rT (tx:=tx) hlv (aS e.tx k).un;have HFit:=hid (bA8 hlv ht _ hb1);generalize(aS e.tx k).un=bs at*;obtain⟨st,HST⟩:∃st,Hid (cZ tx e.lv bs=st):=⟨_,rfl⟩
 have HBL:Hid (bs.length<=40):=hfew;rw[HST.out]at hback HFit;obtain⟨rc,nl,rs⟩:=st;simp only at hback HFit;have hfe:Rec.Fit ⟨5,tx,0,F',0,F',0⟩:=⟨by show(1:Int)<=5/\(5:Int)<=5;omega,fT ht,by show(0:Int)<=0/\(0:Int)<=99;omega,by show(0:Int)<=0/\(0:Int)<=9999;omega,by show(0:Int)<=0/\(0:Int)<=9999;omega,fun _=>⟨rfl,rfl,rfl,rfl,rfl⟩⟩
 have hlm:∀i,(nl.getD i []).length<=9223372036854775807:=fun i=>by have:=fI hback.1 i;omega
 have HKL:=h.own.lk.len;have hbl:=h.lt;have htl:=aD t3;obtain⟨x0,x1,x2,x3,x4,x5,x6,x7,x8,x9⟩:=h.all;rw[hta]at x3;have HTA:=hid hta;clear hta;go_enter func207,ntmps207
 go_wp2_with fail
 refine R0 (fun W'=>W'.cell? ⟨b,o+1,O⟩=Y (Z s.la s.ln s.lc)/\W'.cell? ⟨tb,k*8+3,O⟩=Y (Z au nu cu)) (⟨x1,t3⟩) (fun hH=>?_);refine R5 0 1 2 3 4 ?_;refine R4 5 6 7 8 ?_;refine vX (d:=gwD) (E:=gwE) (z:=11) (pre:=gwP) (R:=GwR w.heap.size rc nl rs) (Bs:=fun T' W=>EgX W T' b o cs t s e/\Stp T T' w W o cs cs/\W.cell? ⟨tb,k*8+3,O⟩=Y (Z au nu cu)/\CellsAt W au (nu*3) (bfcells bs)) cB3 dD6 (by kernel_rfl) (by kernel_rfl) (by kernel_rfl) (by kernel_rfl) (by kernel_rfl) (by kernel_rfl) (by kernel_rfl) (Nat.le_of_ble_eq_true (by kernel_rfl)) (GwR.mono w.heap.size rc nl rs) ?bs ?step ?last T ?init;case init=>exact⟨⟨h.own.kept (fun k _ _=>jS),h.box,h.cell,h.tag⟩,⟨rfl,rfl,rfl,z',jS,jS,fun _ _=>rfl,rfl⟩,t3,hU.below ((Aa _ _).drew)⟩
 case bs=>intro T' W hB;exact⟨hB.1.all.2.1,hB.2.2.1⟩
 case step=>
  intro i hi vs T' W hB hp;unfold gwE at hi;simp only[Am,Cu,Eh]at hi;rcases hi with rfl|rfl
  .refine Dq rfl (fun K hK=>?_);refine qP (xs:=#[.tmp 17,.tmp 18,.tmp 22]) (vs:=#[Z s.la s.ln s.lc,I J tx,Z au nu cu]) rfl rfl ?_ (by go_simp) ?_
   .exact dQ6 ((eG gwD vs 17 gwE _ (by kernel_rfl)).trans rfl) ((eG gwD vs 18 gwE _ (by kernel_rfl)).trans rfl) ((eG gwD vs 22 gwE _ (by kernel_rfl)).trans rfl)
   .have hU8:=cH0 s.la s.ln s.lc tx au nu cu e.lv bs _ (hB.1.own.lv.sub fK) hlv ht hb1 hB.2.2.2 hnu;rw[HST.out]at hU8;refine hU8.mono ?_;rintro r W2⟨a1,m1,c1,a2,m2,c2,rfl,⟨vs',lo,hi,hV,hR,_⟩,hb⟩;exact⟨_,rfl,hK _ _ ⟨_,mrk T' W.heap.size 0,rfl,⟨a1,m1,c1,a2,m2,c2,rfl,OwnLv.seen ⟨hV.1,vs',hV.2⟩ hlm (jR T' W.heap.size),lH hR (jR T' W.heap.size)⟩,fun k=>aY hb T' 0 k,hb.size,hB.1.below hb 0,hB.2.1.trans (Stp.below o cs hb 0),keep_cell hb hB.2.2.1,hB.2.2.2.below hb⟩⟩
  .have hb:V' W (W.alloc (M #[I J 0,Z O 0 0,Z O 0 0] 285)):=(Aa _ _).alloc z' _;refine wJ ⟨Y 5,.alloc 285,_,_,_,O⟩ (.pointer (Y ⟨W.heap.size,0,O⟩)) (W.alloc (M #[I J 0,Z O 0 0,Z O 0 0] 285)) (by rfl) cB3 dD6 (by kernel_rfl) rfl ?_ ?_
   .intro ev h1 h2;clear h1 h2;go_simp
   .exact⟨_,mrk T' W.heap.size 8,rfl,⟨W.heap.size,rfl,aP rfl,by unfold mrk;rw[if_neg (by omega)],hB.2.1.size⟩,fun k'=>aY hb T' 8 k',hb.size,hB.1.below hb 8,hB.2.1.trans (Stp.below o cs hb 8),keep_cell hb hB.2.2.1,hB.2.2.2.below hb⟩
 case last=>
  intro vs T' W hB hR K0 hK0;obtain⟨a1,m1,c1,a2,m2,c2,e9,hL,hC⟩:=hR 9 (by simp[gwE]);obtain⟨g,e10,hg,hTg,hgw⟩:=hR 10 (by simp[gwE]);clear hR;obtain⟨hX,hS,t3,hU⟩:=hB;have q0:W.cell? ⟨g,0,O⟩=Y (I J 0):=Ai _ g 0 _ _ _ hg;have q1:W.cell? ⟨g,1,O⟩=Y (Z O 0 0):=Ai _ g 1 _ _ _ hg;have q2:W.cell? ⟨g,2,O⟩=Y (Z O 0 0):=Ai _ g 2 _ _ _ hg;have f0:=An _ g 0 _ _ hg;have f1:=An _ g 1 _ _ hg;have f2:=An _ g 2 _ _ hg;have h0:=Ag W g 0 _ _ (I J rc) hg;have h1:=Ag _ g 1 _ _ (Z a1 m1 c1) h0;have h2:=Ag _ g 2 _ _ (Z a2 m2 c2) h1;have hgr:W.grownBy (((W.setCell ⟨g,0,O⟩ (I J rc)).setCell ⟨g,1,O⟩ (Z a1 m1 c1)).setCell ⟨g,2,O⟩ (Z a2 m2 c2)) (Y g):=cM (cM iI);refine tR ⟨O,.store 285 (.tmp 5) (.tmp 23),_,_,_,O⟩ (((W.setCell ⟨g,0,O⟩ (I J rc)).setCell ⟨g,1,O⟩ (Z a1 m1 c1)).setCell ⟨g,2,O⟩ (Z a2 m2 c2)) (by rfl) cB3 dD6 (by kernel_rfl) rfl ?_ ?_
  .intro ev h1 h2;have s1:ev (.tmp 5)=_:=(h1 10 (by kernel_rfl)).trans e10;have s2:ev (.tmp 23)=_:=(h1 9 (by kernel_rfl)).trans e9;clear h1 h2;go_simp
  .have hX2:=hX.own8 hgr hTg;have hS2:=hS.own8 hgr hTg hgw;have hL2:=hL.sub (eE (gC hgr hTg (by decide:0≠8)));have hC2:=hC.sub (eE (gC hgr hTg (by decide:0≠8)));have hbx:(((W.setCell ⟨g,0,O⟩ (I J rc)).setCell ⟨g,1,O⟩ (Z a1 m1 c1)).setCell ⟨g,2,O⟩ (Z a2 m2 c2)).heap[g]? =Y (M #[I J rc,Z a1 m1 c1,Z a2 m2 c2] 285 (0,0)):=h2;have t3':(((W.setCell ⟨g,0,O⟩ (I J rc)).setCell ⟨g,1,O⟩ (Z a1 m1 c1)).setCell ⟨g,2,O⟩ (Z a2 m2 c2)).cell? ⟨tb,k*8+3,O⟩=Y (Z au nu cu):=aK hgr t3 (by intro he;simp at he;subst he;have h6:=hX.own.tx;obtain⟨us',hT'⟩:=h6;rw[HTA.out]at hT';obtain⟨_,⟨_,hr,_⟩,_,_⟩:=hT';have:=hr.2 g rfl;omega)
   generalize(((W.setCell ⟨g,0,O⟩ (I J rc)).setCell ⟨g,1,O⟩ (Z a1 m1 c1)).setCell ⟨g,2,O⟩ (Z a2 m2 c2))=W2 at*;clear hgr h0 h1 h2 q0 q1 q2 f0 f1 f2 hg hX hS hL hC t3;refine hK0 _ _ ⟨hX2.all.2.1,t3'⟩ (NoPanic.normal ?_);dsimp only[eB,gwE,List.foldl];simp only[Act.put,gwD,Bh,List.set_cons_zero,List.set_cons_succ];rw[e9,e10];clear e9 e10 vs hK0 K0 hU;have hTb:T' tb=2:=hX2.tb2 HTA.out hk;have hTb1:T' b=1:=hX2.tag;have hgb:¬g=b:=by intro he;subst he;omega
   have hgt:¬g=tb:=by intro he;subst he;omega
   by_cases hrc:rc=0
   .subst hrc;have hlg:aL nl=0:=hback.2.2 rfl;have HN2:=hC2.recN;have hm2:m2<=40:=by have:=HN2.out;have:=HBL.out;have:=hback.2.1;omega
    have hset:=EgX.set (i:=1) (v:=Z a1 m1 c1) hX2.box hX2.cell hX2.tag (hX2.own.newLv (c:=c1) hL2 hback.1) (by decide) rfl;have hC3:CellsAt (gU (Ice T') (W2.setCell ⟨b,o+1,O⟩ (Z a1 m1 c1))) a2 (m2*7) (rc7 rs):=hC2.sub (eE hset.2.k0);have hbx3:(W2.setCell ⟨b,o+1,O⟩ (Z a1 m1 c1)).heap[g]? =Y (M #[I J 0,Z a1 m1 c1,Z a2 m2 c2] 285 (0,0)):=by rw[Bu _ _ _ _ (by simpa using hgb)];exact hbx
    have hX3:=hset.1;have hS3:=hS2.trans hset.2;have y1:=hX2.all.2.1;have f1:=hX2.frz (o+1);obtain⟨g0,g1,g2⟩:=tA hbx;clear hset;go_wp2_with fail
    go_loopw [6] (fun i wr=>∃(j:Nat) (Tj:Nat->Nat) (cj:Array Value) (a3:Option Addr) (n3 c3:Nat) (lo3:List Int) (a4:Option Addr) (n4 c4:Nat) (ix4:List Hold),j<=m2/\i=I J j/\EgX wr Tj b o cj t {s with la:=a1,ln:=m1,lc:=c1,oa:=a3,on:=n3,oc:=c3,xa:=a4,xn:=n4,xc:=c4} {e with lv:=nl,lo:=lo3,ix:=ix4}/\Stp T Tj w wr o cs cj/\n3<=s.on+j*11/\n4<=s.xn+j/\wr.heap[g]? =Y (M #[I J 0,Z a1 m1 c1,Z a2 m2 c2] 285 (0,0))/\Tj g=8/\CellsAt (gU (Ice Tj) wr) a2 (m2*7) (rc7 rs)) (fun i _=>m2-(intOf i).toNat)
    case atStart=>exact⟨0,T',_,s.oa,s.on,s.oc,e.lo,s.xa,s.xn,s.xc,e.ix,Ad _,rfl,hX3,hS3,by omega,by omega,hbx3,hTg,hC3⟩
    case round=>
     obtain⟨j,Tj,cj,a3,n3,c3,lo3,a4,n4,c4,ix4,hj,rfl,hXj,hSj,hn3,hn4',hbj,hTj,hCj⟩:=hrel;clear g0 g1 g2 hX2 hS2 hL2 hC2 hbx t3' hX3 hS3 hC3 hbx3 y1 f1 hTg;obtain⟨g0,g1,g2⟩:=tA hbj;have hgl:=aD g0;by_cases hlt:j<m2
     .obtain⟨b7,o7,ha7,r0,r1,r2,r3,r4,r5,r6⟩:=hCj.recE hlt;have hfit:=HFit.out (rs.getD j Rec.zero) (by rw[Bt,Ao (by have:=HN2.out;omega)];exact Ce _);generalize rs.getD j Rec.zero=rr at r0 r1 r2 r3 r4 r5 r6 hfit;obtain⟨kd,tx',ky,hd,ol,hs,nw⟩:=rr;simp only at r0 r1 r2 r3 r4 r5 r6;have z0:=(gS r0).1;have z1:=(gS r1).1;have z2:=(gS r2).1;have z3:=(gS r3).1;have z4:=(gS r4).1;have z5:=(gS r5).1;have z6:=(gS r6).1;rw[ha7]at g2;have hb7:=aD z0;have HA7:=hid ha7;clear ha7;go_wp2_with first
       |(refine(pQ kd tx' ky hd ol hs nw _ _ b o _ t _ _ hXj hfit (by show n3+11<=4100000;omega)).mono ?_
         rintro r W6⟨rfl,T6,c6,a6,n6,k6,lo6,hX6,hn6,hS6⟩;obtain⟨hb6,hT6⟩:=hS6.k8 g hgl hTj;rw[hbj]at hb6;obtain⟨q0,q1,q2⟩:=tA hb6;rw[HA7.out]at q2;have q7:=(gS (eE hS6.k0 _ _ _ r2)).1;have hC6:=hCj.sub (eE hS6.k0);have hgl6:=aD q0;clear r0 r1 r3 r4 r5 r6)
       |(refine(aK7 ky _ _ b o _ t _ _ hX6 hlg (by show n4<=1048575;omega)).mono ?_
         rintro r W7⟨rfl,T7,c7,a7,n7,k7,ix7,hX7,hn7,hS7⟩;obtain⟨hb7',hT7⟩:=hS7.k8 g hgl6 hT6;rw[hb6]at hb7';have hC7:=hC6.sub (eE hS7.k0))
      go_roundw;case rel=>exact⟨j+1,T7,c7,a6,n6,k6,lo6,a7,n7,k7,ix7,by omega,by go_num,hX7,(hSj.trans hS6).trans hS7,by omega,by omega,hb7',hT7,hC7⟩
      case measure=>simp[intOf];omega
     .obtain rfl:j=m2:=by omega
      have hXt:=hXj;have hSt:=hSj;have hnt:n3<=s.on+440/\n4<=s.xn+40:=by have:=HN2.out;have:=HBL.out;have:=hback.2.1;omega
      have hlt':aL nl=0:=hlg;go_wp2_with fail
      refine(pQ 5 tx 0 F' 0 F' 0 _ _ b o _ t _ _ hXt hfe (by(try simp only);omega)).mono ?_;rintro r W8⟨rfl,T8,c8,a8,n8,k8,lo8,hX8,hn8,hS8⟩
      (try simp only at hn8)
      obtain⟨⟨v2,z2⟩,⟨v3,z3⟩,⟨v4,z4⟩,⟨v5,z5⟩,⟨v6,z6⟩,⟨v7,z7⟩,fz⟩:=hX8.cellsTx HTA.out hk;have fz2:=fz (k*8+2);have fz3:=fz (k*8+3);have fz4:=fz (k*8+4);have fz5:=fz (k*8+5);have fz6:=fz (k*8+6);have fz7:=fz (k*8+7);obtain⟨e9,hX9,hS9,hlv9,hlk9,hun9,htl9⟩:=hX8.wipe HTA.out hk;have hLk9:=hX9.own.lk.sub fK;rw[hlk9]at hLk9;have y2:=hX9.all.2.2.1;have hbt:¬tb=b:=by have h1:=hX8.tag;have h2:=hX8.tb2 HTA.out hk;intro he;subst he;omega
      have htl8:=aD z3;have hbl8:=hX8.lt;go_wp2_with fail
      refine(yF _ _ _ tx e.lk _ hLk9 (by have:=nC hlk;have:=HKL.out;omega) (fun i hi=>by have:=qZ hlk (show i<e.lk.length by have:=HKL.out;omega);exact⟨this.1,this.2.1,this.2.2.1,this.2.2.2.1⟩)).mono ?_;rintro r WA⟨aA,mA,cA,aB,mB,cB,rfl,_,_,hLkA,hbA⟩;have hXA:=hX9.below hbA 0;have hSA:=Stp.below (T:=T8) o c8 hbA 0;have hset:=EgX.set (i:=2) (v:=Z aB mB cB) hXA.box hXA.cell hXA.tag (hXA.own.newLk (c:=cB) (hLkA.seen (jR _ _)) (by have:=tD hlk tx;omega)) (by decide) rfl;have yA:=hXA.all.2.2.1;have fA:=hXA.frz (o+2);have hblA:=hXA.lt;go_wp2;exact Er (Ek rfl _ _ _) rfl ⟨rfl,_,_,_,_,hset.1,(((hSt.trans hS8).trans hS9).trans hSA).trans hset.2,⟨by simp only;rw[hlv9];exact hlt',rfl,rfl,rfl,by simp only;omega,by simp only;omega,by simp only;omega,hun9,htl9⟩,rfl,rfl⟩
   .have g0:W2.cell? ⟨g,0,O⟩=Y (I J rc):=Ai _ g 0 _ _ _ hbx;have hrb:(rc==0)=F':=by simpa using hrc
    have hXt:=hX2;have hSt:=hS2;have hnt:s.on<=s.on+440/\s.xn<=s.xn+40:=by omega
    have hlt':aL e.lv=0:=hlv;go_wp2_with fail
    refine(pQ 5 tx 0 F' 0 F' 0 _ _ b o _ t _ _ hXt hfe (by(try simp only);omega)).mono ?_;rintro r W8⟨rfl,T8,c8,a8,n8,k8,lo8,hX8,hn8,hS8⟩
    (try simp only at hn8)
    obtain⟨⟨v2,z2⟩,⟨v3,z3⟩,⟨v4,z4⟩,⟨v5,z5⟩,⟨v6,z6⟩,⟨v7,z7⟩,fz⟩:=hX8.cellsTx HTA.out hk;have fz2:=fz (k*8+2);have fz3:=fz (k*8+3);have fz4:=fz (k*8+4);have fz5:=fz (k*8+5);have fz6:=fz (k*8+6);have fz7:=fz (k*8+7);obtain⟨e9,hX9,hS9,hlv9,hlk9,hun9,htl9⟩:=hX8.wipe HTA.out hk;have hLk9:=hX9.own.lk.sub fK;rw[hlk9]at hLk9;have y2:=hX9.all.2.2.1;have hbt:¬tb=b:=by have h1:=hX8.tag;have h2:=hX8.tb2 HTA.out hk;intro he;subst he;omega
    have htl8:=aD z3;have hbl8:=hX8.lt;go_wp2_with fail
    refine(yF _ _ _ tx e.lk _ hLk9 (by have:=nC hlk;have:=HKL.out;omega) (fun i hi=>by have:=qZ hlk (show i<e.lk.length by have:=HKL.out;omega);exact⟨this.1,this.2.1,this.2.2.1,this.2.2.2.1⟩)).mono ?_;rintro r WA⟨aA,mA,cA,aB,mB,cB,rfl,_,_,hLkA,hbA⟩;have hXA:=hX9.below hbA 0;have hSA:=Stp.below (T:=T8) o c8 hbA 0;have hset:=EgX.set (i:=2) (v:=Z aB mB cB) hXA.box hXA.cell hXA.tag (hXA.own.newLk (c:=cB) (hLkA.seen (jR _ _)) (by have:=tD hlk tx;omega)) (by decide) rfl;have yA:=hXA.all.2.2.1;have fA:=hXA.frz (o+2);have hblA:=hXA.lt;go_wp2;exact Er (Ek rfl _ _ _) rfl ⟨rfl,_,_,_,_,hset.1,(((hSt.trans hS8).trans hS9).trans hSA).trans hset.2,⟨by simp only;rw[hlv9];exact hlt',rfl,rfl,rfl,by simp only;omega,by simp only;omega,by simp only;omega,hun9,htl9⟩,rfl,rfl⟩
end Go.Proofs.YtpbbokalojdooaaGreat
