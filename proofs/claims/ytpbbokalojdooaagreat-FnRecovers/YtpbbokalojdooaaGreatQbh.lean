import Derived.Test.YtpbbokalojdooaaGreatQbf
import Derived.Test.YtpbbokalojdooaaGreatQbg
namespace Go.Proofs.YtpbbokalojdooaaGreat
open Go.RowKit Ch Go.Proofs.Tryz
set_option linter.unusedSimpArgs false
set_option linter.unusedVariables false
set_option maxRecDepth 20000
set_option maxHeartbeats 8000000
open Value renaming int->I,slice->Z,bool->X,agg->U
open IntKind renaming i64->J
open Option renaming none->O,some->Y
open Obj renaming cells->M
open Ending renaming returned->R'
open Bool renaming true->A',false->F'
variable {e:Eng} {c:Int}
def DrwR:Prop:=∀(a:Option Addr) (n cap:Nat) (zs:List Int) (w:World),CellsAt w a n (bts zs)->IsB zs->n<=1048580->
  Calls prog 6 #[Z a n cap] w fun e w'=>∃a1 n1 c1 a2 n2 c2 bs ds,e=R' (.tuple #[Z a1 n1 c1,Z a2 n2 c2])/\n1<=1048576/\n2<=1048576/\n2<=c2/\CellsAt w' a1 (n1*3) (rcells bs)/\CellsAt w' a2 n2 (bts ds)/\IsB ds/\Below w.heap.size w w'
theorem dC2(c:Int)(a:Option Addr)(m k:Nat)(a':Option Addr)(m' k':Nat)(W:World):(Instr.field 29 (U #[I J c,Z a m k,Z a' m' k']) 0).run prog W= .ok (I J c) W:=by kernel_rfl
theorem cV6(c:Int)(a:Option Addr)(m k:Nat)(a':Option Addr)(m' k':Nat)(W:World):(Instr.field 29 (U #[I J c,Z a m k,Z a' m' k']) 2).run prog W= .ok (Z a' m' k') W:=by kernel_rfl
theorem cV7(c u:Int)(a:Option Addr)(m k:Nat)(W:World):(Instr.field 33 (U #[I J c,I J u,Z a m k]) 2).run prog W= .ok (Z a m k) W:=by kernel_rfl
theorem cY1(a a':Option Addr)(n m cap cap':Nat)(zs:List Int)(w:World)(e:m=n)(h:CellsAt w a (n*1) (icells zs))(h':CellsAt w a' (m*1) (icells zs))(hn:n<=4194304):
  Calls prog 15 #[Z a n cap,Z a' m cap'] w fun e w'=>e=R' (X A')/\Below w.heap.size w w':=by
 subst e;exact bB5 a a' m cap cap' zs w h h' hn
theorem aG3(HDR:DrwR)(a:Option Addr)(n cap:Nat)(zs:List Int)(w:World)(h:CellsAt w a n (bts zs))(hb:IsB zs):
  Calls prog 3 #[Z a n cap] w fun e w'=>e=R' (X A')/\Below w.heap.size w w':=by
 by_cases hbig:(1048576:Int)<n
 .have hd:decide ((1048576:Int)<n)=A':=decide_eq_true hbig;have IB:=fun W=>cH3 a n cap W;rw[hd]at IB;go_enter func3,ntmps3
  go_wp2_with fail
  refine(IB _).mono ?_;rintro e w1⟨rfl,rfl⟩;go_wp2;go_ret;exact⟨rfl,u'⟩
 have hd:decide ((1048576:Int)<n)=F':=decide_eq_false hbig;have IB:=fun W=>cH3 a n cap W;rw[hd]at IB;have hn:n<=1048580:=by omega
 clear hd hbig;have HD:=HDR a n cap zs w h hb hn;clear h hb HDR;have hf0:=dC2;have hf2:=cV6;have hfs:=cV7;go_enter func3,ntmps3
 go_wp2_with fail
 refine(IB _).mono ?_;rintro e w1⟨rfl,hw1⟩;obtain rfl:=hw1.symm;clear IB hw1;go_wp2_with fail
 refine HD.mono ?_;rintro e w1⟨a1,n1,c1,a2,n2,c2,bs,ds,rfl,hn1,hn2,hcap,h1,h2,hb,b1⟩;clear HD;have SI:=fun(W:World) (u1 u2:Unit) (hW1:CellsAt W a1 (n1*3) (rcells bs)) (hW2:CellsAt W a2 n2 (bts ds))=>aS4 a1 n1 c1 bs a2 n2 c2 ds W hW1 hW2 hb hn1 hn2 hcap;have II:=fun(W:World) (hW1:CellsAt W a1 (n1*3) (rcells bs)) (hW2:CellsAt W a2 n2 (bts ds))=>wU a1 n1 c1 bs a2 n2 c2 ds W hW1 hW2 hb hn1 hn2 hcap;obtain⟨RR,HRR⟩:∃RR,Hid (oT bs ds=RR):=⟨_,rfl⟩
 rw[HRR.out]at SI II;obtain⟨c,L,R⟩:=RR;go_wp2_with fail
 refine(II _ h1 h2).mono ?_;rintro e w2⟨ra,rm,rc,ta,tm,tc,hra⟩;have b2:=hra.bl;have orl:=hra.o1;have ort:=hra.o2;have hrm:=hra.b1;have htm:=hra.b2;have hret:=hra.ret;subst hret;simp only at orl ort;clear hra II;have b2':=b1.trans (b2.mono b1.size);have kB:=f' w2 (M #[I J c,Z ra rm rc,Z ta tm tc] 29);have b3':=b2'.trans (kB.mono b2'.size);have h1:=(h1.below b2).below kB;have h2:=(h2.below b2).below kB;obtain⟨x0,x1,x2,f0,f1,f2⟩:=oO (heap_alloc_new w2 (M #[I J c,Z ra rm rc,Z ta tm tc] 29));have lx:=aD x0;have orl:=aF orl kB;have ort:=aF ort kB;by_cases h0:c=0;rotate_left
 .have hc:(c !=0)=A':=by simpa using h0
  have hcc:(c==c)=A':=by simp
  clear orl ort hf2 hfs;have hV:∃V,Hid (V=w2.alloc (M #[I J c,Z ra rm rc,Z ta tm tc] 29)):=⟨_,rfl⟩
  obtain⟨V,HV⟩:=hV;have e0:=HV.out;go_wp2;rw[<-e0]at h1 h2 x0 x1 x2 f0 f1 f2 lx b3'⊢;clear e0 HV kB;replace SI:=fun W hW1 hW2=>SI W () () hW1 hW2;refine R0 (fun W'=>W'.cell? ⟨w2.heap.size,0,O⟩=Y (I J c)/\Below V.heap.size V W') (⟨x0,u'.drew⟩) (fun hH=>?_);refine R4 0 1 4 5 ?_;refine R6 2 (fun K hK=>?_);go_simp;refine(SI _ (h1.below hH.2) (h2.below hH.2)).mono ?_;rintro e w4⟨p1,q1,r1,p2,q2,r2,hra⟩;have b4:=hra.bl;have hret:=hra.ret;subst hret;clear hra;have b4A:=hH.2.trans (b4.mono hH.2.size);have k4:=aC b4 hH.1;go_wp2_with fail
  refine hK.out _ _ ?_ (fun hH=>?_)
  .exact⟨k4,b4A⟩
  clear hK K;refine R3 3 6 7 ?_;refine R7 ?_;go_wp2;go_ret;exact⟨rfl,b3'.trans (b4A.mono b3'.size)⟩
 subst h0;have HI:=hid (cJ8 HRR.out);clear HRR hf0;have HL2:=h2.len;have hn4:n2<=4000:=by have h3:=HI.out.small;have h4:=HL2.out;omega
 have hrl:5*(aU ds).length<=n2:=Nat.le_trans (pZ ds) (by have:=rZ ds;have:=HL2.out;omega);have IR:=fun W hW=>aC8 a2 n2 c2 ds W hW hb hn4 hcap;have IL:=fun(A:Option Addr) (C:Nat) (W:World) hW=>bK0 A (aU ds).length C (aU ds) W hW (by omega);have IC:=fun(A:Option Addr) (C:Nat) (W:World) hW=>bJ9 A (aU ds).length C (aU ds) W hW (by omega);have IQ:=fun(A:Option Addr) (C:Nat) (W:World) hW1 hW2=>zB a1 n1 c1 bs A (aU ds).length C (aU ds) W hW1 hW2 hn1 (by omega);have IM:=fun W hW=>wT ta tm tc R W hW htm;have IG:=fun W hW=>wU ta tm tc R O 0 0 [] W hW ⟨rfl,fun h=>absurd h (by simp)⟩ (fun i=>by simp) htm (by omega) z';rw[HI.out.los]at IL;rw[HI.out.redo]at IQ;rw[HI.out.map]at IM;rw[HI.out.again]at IG;have HC0:=hid HI.out.com0;have HCN:=hid HI.out.com;rw[HC0.out]at IC;generalize(zZ (aU ds)).2=KC at IC HCN;generalize hp:(aU ds).length=p at*;generalize aU ds=rs at*;generalize fJ ds=us at*;clear HI HC0 hp HL2 x0 x1 x2 f0 f1 f2 lx;replace SI:=fun W hW1 hW2=>SI W () () hW1 hW2;simp only at IL IQ IM IG;go_wp2_with fail
 refine(IR _ h2).mono ?_;rintro e w4⟨ar,cr,rfl,orr,b4⟩;have x0:=cV b4 0;have x1:=cV b4 1;have x2:=cV b4 2;simp at x0 x1 x2;have z4:=b4.size;simp at z4;have h1:=h1.below b4;have h2:=h2.below b4;have orl:=aF orl b4;have ort:=aF ort b4;have b4':=b3'.trans (b4.mono b3'.size);clear b4 b3' kB IR;go_wp2_with fail
 refine(IL ar cr _ (aJ orr)).mono ?_;rintro e w5⟨la,lm,lc,rfl,hlm,ol,b5⟩;have ELM:Hid (rm=lm):=by have e1:=ol.1;have e2:=orl.1;show _=_;omega
 have orl:=aF orl b5;have ort:=aF ort b5;have orr:=aF orr b5;have x0:=aC b5 x0;have x1:=aC b5 x1;have x2:=aC b5 x2;have h1:=h1.below b5;have h2:=h2.below b5;have b5':=b4'.trans (b5.mono b4'.size);have z5:=b5.size;clear b5 b4' IL;have kB:=f' w5 (M #[I J 0,Z la lm lc] 36);obtain⟨l0,l1,_,_⟩:=aA9 (heap_alloc_new w5 (M #[I J 0,Z la lm lc] 36));have orl:=aF orl kB;have ort:=aF ort kB;have orr:=aF orr kB;have ol:=aF ol kB;have x0:=aC kB x0;have x1:=aC kB x1;have x2:=aC kB x2;have h1:=h1.below kB;have h2:=h2.below kB;have b5':=b5'.trans (kB.mono b5'.size);have hIC:=IC ar cr _ (aJ orr);go_wp2_with fail
 refine hIC.mono ?_;rintro e w6⟨ca,cm,cc,rfl,hcm,oc',b6⟩;clear hIC IC;have orl:=aF orl b6;have ort:=aF ort b6;have orr:=aF orr b6;have ol:=aF ol b6;have x0:=aC b6 x0;have x1:=aC b6 x1;have x2:=aC b6 x2;have l0:=aC b6 l0;have l1:=aC b6 l1;have h1:=h1.below b6;have h2:=h2.below b6;have b6':=b5'.trans (b6.mono b5'.size);have z6:=b6.size;simp at z6;clear b6 b5' kB;have kB:=f' w6 (M #[I J 0,Z ca cm cc] 36);obtain⟨d0,d1,_,_⟩:=aA9 (heap_alloc_new w6 (M #[I J 0,Z ca cm cc] 36));have orl:=aF orl kB;have ort:=aF ort kB;have orr:=aF orr kB;have ol:=aF ol kB;have oc':=aF oc' kB;have x0:=aC kB x0;have x1:=aC kB x1;have x2:=aC kB x2;have l0:=aC kB l0;have l1:=aC kB l1;have h1:=h1.below kB;have h2:=h2.below kB;have b6':=b6'.trans (kB.mono b6'.size);have z7:w6.heap.size<(w6.alloc (M #[I J 0,Z ca cm cc] 36)).heap.size:=by simp
 obtain⟨V6,HV6⟩:∃V6,Hid (V6=w6.alloc (M #[I J 0,Z ca cm cc] 36)):=⟨_,rfl⟩
 have e6:=HV6.out;go_wp2;rw[<-e6]at orl ort orr ol oc' x0 x1 x2 l0 l1 d0 d1 h1 h2 b6' z7⊢;clear e6 HV6 kB;obtain⟨bl,hbl⟩:∃bl,Hid (bl=w5.heap.size):=⟨_,rfl⟩
 obtain⟨bc,hbc⟩:∃bc,Hid (bc=w6.heap.size):=⟨_,rfl⟩
 obtain⟨br,hbr⟩:∃br,Hid (br=w2.heap.size):=⟨_,rfl⟩
 have HLN:Hid (lm=L.length):=(aJ ol).ilen;go_loopw [9] (fun i wr=>∃k:Nat,k<=lm/\i=I J k/\Below V6.heap.size V6 wr) (fun i _=>lm-(intOf i).toNat)
 case atStart=>exact⟨0,Nat.zero_le _,rfl,u'⟩
 case round=>
  obtain⟨k,hk,rfl,hB⟩:=hrel;have l1:=aC hB l1;have d1:=aC hB d1;have ll:=aD l1;have ld:=aD d1;by_cases hlt:k<lm
  .have hkl:k<L.length:=by have:=HLN.out;omega
   have oc':=aF oc' hB;have HC:=hid (HCN.out (L.getD k 0) (by simp[List.getD,hkl]));obtain⟨lb,lo,rfl,q0⟩:=(aJ (aF ol hB)).int hlt;have lq:=aD q0;generalize L.getD k 0=z at*;have IH:=fun W hW=>cA2 ca cm cc z KC W hW (by omega);rw[HC.out]at IH;have i1:(k:Int)<(lm:Int):=by omega
   rw[<-hbl.out]at l1 ll⊢;rw[<-hbc.out]at d1 ld⊢;go_wp2;refine R0 (fun W'=>W'.cell? ⟨bl,1,O⟩=Y (Z (Y ⟨lb,lo,O⟩) lm lc)/\W'.cell? ⟨bc,1,O⟩=Y (Z ca cm cc)/\W'.cell? ⟨lb,lo+k,O⟩=Y (I J z)/\Below wr.heap.size wr W') (⟨l1,d1,q0,u'.drew⟩) (fun hH=>?_);refine R5 0 1 2 3 4 ?_;refine R2 5 6 ?_;refine R6 7 (fun K hK=>?_);go_simp;refine(IH _ (aJ (aF oc' hH.2.2.2))).mono ?_;rintro e w4⟨rfl,hw4⟩;obtain rfl:=hw4.symm;go_wp2_with fail
   refine hK.out _ _ ?_ (fun hH=>?_)
   .exact hH
   clear hK K;refine R7 ?_;have hB2:=hB.trans (hH.2.2.2.mono hB.size);clear hH;go_wp2;go_roundw;case rel=>exact⟨k+1,by omega,by go_num,hB2⟩
   case measure=>simp[intOf];omega
  .have hkl:lm=k:=by omega
   subst hkl;generalize wr=W7 at*;have orl:=aF orl hB;have ort:=aF ort hB;have orr:=aF orr hB;have ol:=aF ol hB;have x0:=aC hB x0;have x1:=aC hB x1;have x2:=aC hB x2;have l0:=aC hB l0;have d0:=aC hB d0;have h1:=h1.below hB;have h2:=h2.below hB;have b7':=b6'.trans (hB.mono b6'.size);have z8:=hB.size;clear hB b6' hlt hk;have lx:=aD x2;go_wp2_with fail
   refine(IM _ (aJ ort)).mono ?_;rintro e w8⟨ma,mm,mc,rfl,hmm,om,b8⟩;have E1:tm=mm:=by have e1:=om.1;have e2:=ort.1;omega
   subst E1;have orl:=aF orl b8;have ort:=aF ort b8;have orr:=aF orr b8;have ol:=aF ol b8;have x0:=aC b8 x0;have x1:=aC b8 x1;have x2:=aC b8 x2;have l0:=aC b8 l0;have l1:=aC b8 l1;have d0:=aC b8 d0;have d1:=aC b8 d1;have h1:=h1.below b8;have h2:=h2.below b8;have b8':=b7'.trans (b8.mono b7'.size);have z9:=b8.size;clear b8 b7' IM;have kB:=f' w8 (M #[I J 0,Z ma tm mc] 40);obtain⟨m0,m1,_,_⟩:=aA9 (heap_alloc_new w8 (M #[I J 0,Z ma tm mc] 40));have orl:=aF orl kB;have ort:=aF ort kB;have orr:=aF orr kB;have ol:=aF ol kB;have om:=aF om kB;have x0:=aC kB x0;have x1:=aC kB x1;have x2:=aC kB x2;have l0:=aC kB l0;have l1:=aC kB l1;have d0:=aC kB d0;have d1:=aC kB d1;have h1:=h1.below kB;have h2:=h2.below kB;have b8':=b8'.trans (kB.mono b8'.size);have hIQ:=IQ ar cr _ h1 (aJ orr);go_wp2_with fail
   refine hIQ.mono ?_;rintro e w9⟨da1,dm1,dc1,da,dm,dc,hra⟩;have b9:=hra.bl;have od:=hra.o2;have hret:=hra.ret;subst hret;simp only at od;clear hra hIQ IQ;have E1:tm=dm:=by have e1:=od.1;have e2:=ort.1;omega
   subst E1;have orl:=aF orl b9;have ort:=aF ort b9;have ol:=aF ol b9;have om:=aF om b9;have x0:=aC b9 x0;have x1:=aC b9 x1;have x2:=aC b9 x2;have l0:=aC b9 l0;have l1:=aC b9 l1;have d0:=aC b9 d0;have d1:=aC b9 d1;have m0:=aC b9 m0;have m1:=aC b9 m1;have h1:=h1.below b9;have h2:=h2.below b9;have b9':=b8'.trans (b9.mono b8'.size);have z10:=b9.size;simp at z10;clear b9 b8' kB;have kB:=f' w9 (M #[I J 0,Z da1 dm1 dc1,Z da tm dc] 29);obtain⟨e0,_,e2,_,_,_⟩:=oO (heap_alloc_new w9 (M #[I J 0,Z da1 dm1 dc1,Z da tm dc] 29));have orl:=aF orl kB;have ort:=aF ort kB;have ol:=aF ol kB;have om:=aF om kB;have od:=aF od kB;have x0:=aC kB x0;have x1:=aC kB x1;have x2:=aC kB x2;have l0:=aC kB l0;have l1:=aC kB l1;have d0:=aC kB d0;have d1:=aC kB d1;have m0:=aC kB m0;have m1:=aC kB m1;have h1:=h1.below kB;have h2:=h2.below kB;have b9':=b9'.trans (kB.mono b9'.size);have lx:=aD x2;have hIG:=IG _ (aJ ort);go_wp2_with fail
   refine hIG.mono ?_;rintro e w10⟨na1,nm1,nc1,na,nm,nc,hra⟩;have b10:=hra.bl;have on:=hra.o2;have hret:=hra.ret;subst hret;simp only at on;clear hra hIG IG;have E1:tm=nm:=by have e1:=on.1;have e2:=ort.1;omega
   subst E1;have orl:=aF orl b10;have ort:=aF ort b10;have ol:=aF ol b10;have om:=aF om b10;have od:=aF od b10;have x0:=aC b10 x0;have x1:=aC b10 x1;have x2:=aC b10 x2;have l0:=aC b10 l0;have l1:=aC b10 l1;have d0:=aC b10 d0;have d1:=aC b10 d1;have m0:=aC b10 m0;have m1:=aC b10 m1;have e0:=aC b10 e0;have e2:=aC b10 e2;have h1:=h1.below b10;have h2:=h2.below b10;have b10':=b9'.trans (b10.mono b9'.size);have z11:=b10.size;simp at z11;clear b10 b9' kB;have kB:=f' w10 (M #[I J 0,Z na1 nm1 nc1,Z na tm nc] 29);obtain⟨g0,_,g2,_,_,_⟩:=oO (heap_alloc_new w10 (M #[I J 0,Z na1 nm1 nc1,Z na tm nc] 29));have orl:=aF orl kB;have ort:=aF ort kB;have ol:=aF ol kB;have om:=aF om kB;have od:=aF od kB;have on:=aF on kB;have x0:=aC kB x0;have x1:=aC kB x1;have x2:=aC kB x2;have l0:=aC kB l0;have l1:=aC kB l1;have d0:=aC kB d0;have d1:=aC kB d1;have m0:=aC kB m0;have m1:=aC kB m1;have e0:=aC kB e0;have e2:=aC kB e2;have h1:=h1.below kB;have h2:=h2.below kB;have b10':=b10'.trans (kB.mono b10'.size);obtain⟨V,HV⟩:∃V,Hid (V=w10.alloc (M #[I J 0,Z na1 nm1 nc1,Z na tm nc] 29)):=⟨_,rfl⟩
   have eV:=HV.out;go_wp2;rw[<-eV]at orl ort ol om od on x0 x1 x2 l0 l1 d0 d1 m0 m1 e0 e2 g0 g2 h1 h2 b10'⊢;clear eV HV kB;obtain⟨bm,hbm⟩:∃bm,Hid (bm=w8.heap.size):=⟨_,rfl⟩
   obtain⟨bd,hbd⟩:∃bd,Hid (bd=w9.heap.size):=⟨_,rfl⟩
   obtain⟨bn,hbn⟩:∃bn,Hid (bn=w10.heap.size):=⟨_,rfl⟩
   rw[<-hbr.out]at x0 x1 x2⊢;rw[<-hbl.out]at l0 l1⊢;rw[<-hbc.out]at d0 d1⊢;rw[<-hbm.out]at m0 m1⊢;rw[<-hbd.out]at e0 e2⊢;rw[<-hbn.out]at g0 g2⊢;have hsm:Hid (oP R R=A'):=bG4 R;have JN:=fun W (hW:CellsAt W la (lm*1) (icells L)) (hW':CellsAt W ra (rm*1) (icells L))=>cY1 la ra lm rm lc rc L W ELM.out hW hW' (by omega);have JM:=fun W hW hW'=>sV ma ta tm mc tm tc R R W hW hW' (by omega) (by omega);have JD:=fun W hW hW'=>sV da ta tm dc tm tc R R W hW hW' (by omega) (by omega);have JO:=fun W hW hW'=>sV na ta tm nc tm tc R R W hW hW' (by omega) (by omega);rw[hsm.out]at JM JD JO;have HSX:Hid (∀W',Below V.heap.size V W'->(W'.cell? ⟨bl,0,O⟩=Y (I J 0)/\W'.cell? ⟨bl,1,O⟩=Y (Z la lm lc)/\W'.cell? ⟨bc,0,O⟩=Y (I J 0)/\W'.cell? ⟨br,1,O⟩=Y (Z ra rm rc)/\W'.cell? ⟨br,2,O⟩=Y (Z ta tm tc)/\W'.cell? ⟨bm,0,O⟩=Y (I J 0)/\W'.cell? ⟨bm,1,O⟩=Y (Z ma tm mc)/\W'.cell? ⟨bd,0,O⟩=Y (I J 0)/\W'.cell? ⟨bd,2,O⟩=Y (Z da tm dc)/\W'.cell? ⟨bn,0,O⟩=Y (I J 0)/\W'.cell? ⟨bn,2,O⟩=Y (Z na tm nc)/\Below V.heap.size V W')):=fun W' hb'=>⟨aC hb' l0,aC hb' l1,aC hb' d0,aC hb' x1,aC hb' x2,aC hb' m0,aC hb' m1,aC hb' e0,aC hb' e2,aC hb' g0,aC hb' g2,hb'⟩
   clear HCN HLN z4 z5 z6 z7 z8 z9 z10 z11 lx hrl;refine R0 (fun W'=>W'.cell? ⟨bl,0,O⟩=Y (I J 0)/\W'.cell? ⟨bl,1,O⟩=Y (Z la lm lc)/\W'.cell? ⟨bc,0,O⟩=Y (I J 0)/\W'.cell? ⟨br,1,O⟩=Y (Z ra rm rc)/\W'.cell? ⟨br,2,O⟩=Y (Z ta tm tc)/\W'.cell? ⟨bm,0,O⟩=Y (I J 0)/\W'.cell? ⟨bm,1,O⟩=Y (Z ma tm mc)/\W'.cell? ⟨bd,0,O⟩=Y (I J 0)/\W'.cell? ⟨bd,2,O⟩=Y (Z da tm dc)/\W'.cell? ⟨bn,0,O⟩=Y (I J 0)/\W'.cell? ⟨bn,2,O⟩=Y (Z na tm nc)/\Below V.heap.size V W') (HSX.out _ u'.drew) (fun hH=>?_);refine R5 0 1 2 3 4 ?_;refine R5 5 6 7 8 9 ?_;refine R3 10 11 12 ?_;refine R6 13 (fun K hK=>?_);go_simp;refine(JN _ (aJ (aF ol hH.2.2.2.2.2.2.2.2.2.2.2)) (aJ (aF orl hH.2.2.2.2.2.2.2.2.2.2.2))).mono ?_;rintro e w30⟨rfl,b30⟩;have bA:=hH.2.2.2.2.2.2.2.2.2.2.2.trans ((b30).mono hH.2.2.2.2.2.2.2.2.2.2.2.size);go_wp2_with fail
   refine hK.out _ _ ?_ (fun hH=>?_)
   .exact HSX.out _ bA
   clear hK K;refine R5 14 15 16 17 18 ?_;refine R5 19 20 21 22 23 ?_;refine R1 24 ?_;refine R6 25 (fun K hK=>?_);go_simp;refine(JM _ (aJ (aF om hH.2.2.2.2.2.2.2.2.2.2.2)) (aJ (aF ort hH.2.2.2.2.2.2.2.2.2.2.2))).mono ?_;rintro e w31⟨rfl,b31⟩;have bA:=hH.2.2.2.2.2.2.2.2.2.2.2.trans ((b31).mono hH.2.2.2.2.2.2.2.2.2.2.2.size);go_wp2_with fail
   refine hK.out _ _ ?_ (fun hH=>?_)
   .exact HSX.out _ bA
   clear hK K;refine R5 26 27 28 29 30 ?_;refine R5 31 32 33 34 35 ?_;refine R1 36 ?_;refine R6 37 (fun K hK=>?_);go_simp;refine(JD _ (aJ (aF od hH.2.2.2.2.2.2.2.2.2.2.2)) (aJ (aF ort hH.2.2.2.2.2.2.2.2.2.2.2))).mono ?_;rintro e w32⟨rfl,b32⟩;have bA:=hH.2.2.2.2.2.2.2.2.2.2.2.trans ((b32).mono hH.2.2.2.2.2.2.2.2.2.2.2.size);go_wp2_with fail
   refine hK.out _ _ ?_ (fun hH=>?_)
   .exact HSX.out _ bA
   clear hK K;refine R5 38 39 40 41 42 ?_;refine R5 43 44 45 46 47 ?_;refine R1 48 ?_;refine R6 49 (fun K hK=>?_);go_simp;refine(JO _ (aJ (aF on hH.2.2.2.2.2.2.2.2.2.2.2)) (aJ (aF ort hH.2.2.2.2.2.2.2.2.2.2.2))).mono ?_;rintro e w33⟨rfl,b33⟩;have bA:=hH.2.2.2.2.2.2.2.2.2.2.2.trans ((b33).mono hH.2.2.2.2.2.2.2.2.2.2.2.size);go_wp2_with fail
   refine hK.out _ _ ?_ (fun hH=>?_)
   .exact HSX.out _ bA
   clear hK K;refine R5 50 51 52 53 54 ?_;refine R1 55 ?_;refine R6 56 (fun K hK=>?_);go_simp;refine(SI _ (h1.below hH.2.2.2.2.2.2.2.2.2.2.2) (h2.below hH.2.2.2.2.2.2.2.2.2.2.2)).mono ?_;rintro e w34⟨p1,q1,r1,p2,q2,r2,hra⟩;have b34:=hra.bl;have o34:=hra.o2;have hq2:=hra.b2;have hret:=hra.ret;subst hret;simp only at o34;clear hra;have bA:=hH.2.2.2.2.2.2.2.2.2.2.2.trans (b34.mono hH.2.2.2.2.2.2.2.2.2.2.2.size);have eq2:q2=tm:=by have e1:=o34.1;have e2:=ort.1;omega
   subst eq2;go_wp2_with fail
   refine hK.out _ _ ?_ (fun hH=>?_)
   .exact HSX.out _ bA
   clear hK K;refine R1 57 ?_;refine R6 58 (fun K hK=>?_);go_simp;refine(sV ta p2 q2 tc q2 r2 R R _ (aJ (aF ort hH.2.2.2.2.2.2.2.2.2.2.2)) (aJ o34) (by omega) (by omega)).mono ?_;rw[hsm.out];rintro e w35⟨rfl,b35⟩;have bA:=hH.2.2.2.2.2.2.2.2.2.2.2.trans ((b35).mono hH.2.2.2.2.2.2.2.2.2.2.2.size);go_wp2_with fail
   refine hK.out _ _ ?_ (fun hH=>?_)
   .exact HSX.out _ bA
   clear hK K;refine R2 59 60 ?_;refine R7 ?_;have bF:=b10'.trans (bA.mono b10'.size);clear hH HSX;go_wp2;go_ret;exact⟨rfl,bF⟩
theorem bB1(P o:Nat)(a a':Option Addr)(n m cap cap':Nat)(ss ls:List Int)(w:World)(p0:w.cell? ⟨P,o,O⟩=Y (Z a n cap))(p1:w.cell? ⟨P,o+1,O⟩=Y (Z a' m cap'))(h:CellsAt w a n (bts ss))(h':CellsAt w a' m (bts ls))(hb:IsB ss)(hb':IsB ls)(hn:n<=4100000)(hm:m<=4100000)(hcap:n<=cap)(hcap':m<=cap'):
  Calls prog 175 #[.pointer (Y ⟨P,o,O⟩)] w fun e w'=>e=R' (I J (dW ss ls))/\Below w.heap.size w w':=by
 have HL:=h.len;have HM:=h'.len;by_cases hbig:4000<n+m
 .have hi:(4000:Int)<(n:Int)+(m:Int):=by omega
  have HF:Hid (dW ss ls=2):=sA (by have:=HL.out;have:=HM.out;omega);go_enter func175,ntmps175
  go_wp2;go_quiet (fail)
  go_wp2;go_ret;exact⟨by rw[HF.out];rfl,Go.below_drewN u' _⟩
 .have hi:¬(4000:Int)<(n:Int)+(m:Int):=by omega
  have HN:Hid (¬4000<ss.length+ls.length):=by have:=HL.out;have:=HM.out;show ¬_;omega
  go_enter func175,ntmps175
  go_wp2;go_quiet (fail)
  go_wp2_with fail
  refine(xP a n cap ss _ (h.below (Go.below_drewN u' _)) hb (by omega) hcap).mono ?_;rintro e w1⟨g1,c1,rfl,o1,b1⟩;replace b1:Below w.heap.size w w1:=⟨b1.os,b1.tape,b1.output,b1.size,b1.block⟩
  have x0:=aC b1 p0;have x1:=aC b1 p1;clear o1;generalize(aU ss).length=q1;have hE:Hid (((fJ ss:Int) !=(n:Int))=!(fJ ss==ss.length)):=by show _=_;rw[<-HL.out,Bool.eq_iff_iff];simp only[bne_iff_ne,ne_eq,Bool.not_eq_true',beq_eq_false_iff_ne];omega
  cases h1:(fJ ss==ss.length)
  .have HF:Hid (dW ss ls=5):=sB HN.out (.inl h1);have hne:=hE.out;rw[h1]at hne;simp only[Bool.not_false]at hne;clear h1 hE;go_wp2_with fail
   go_ret;exact⟨by rw[HF.out];rfl,b1⟩
  .have hne:=hE.out;rw[h1]at hne;simp only[Bool.not_true]at hne;clear hE;go_wp2_with fail
   refine(xP a' m cap' ls _ (h'.below b1) hb' (by omega) hcap').mono ?_;rintro e w2⟨g2,c2,rfl,o2,b2⟩;have b2':=b1.trans (b2.mono b1.size);have y1:=aC b2 x1;clear o2 b2 hne;generalize(aU ls).length=q2;have hE:Hid (((fJ ls:Int) !=(m:Int))=!(fJ ls==ls.length)):=by show _=_;rw[<-HM.out,Bool.eq_iff_iff];simp only[bne_iff_ne,ne_eq,Bool.not_eq_true',beq_eq_false_iff_ne];omega
   cases h2:(fJ ls==ls.length)
   .have HF:Hid (dW ss ls=5):=sB HN.out (.inr h2);have hne:=hE.out;rw[h2]at hne;simp only[Bool.not_false]at hne;clear h1 h2 hE;go_wp2_with fail
    go_ret;exact⟨by rw[HF.out];rfl,b2'⟩
   .have HF:Hid (dW ss ls=0):=aP5 HN.out h1 h2;have hne:=hE.out;rw[h2]at hne;simp only[Bool.not_true]at hne;clear h1 h2 hE;go_wp2_with fail
    go_ret;exact⟨by rw[HF.out];rfl,b2'⟩
def RestC(e:Eng)(r:Ending):Prop:=∃c,r=R' (I J c)/\(c=0->dW e.su e.lo=0/\fZ e.ix=0)
theorem RestC.bad(h:c≠0):RestC e (R' (I J c)):=⟨c,rfl,fun h0=>absurd h0 h⟩
theorem RestC.ok(h:dW e.su e.lo=0)(h':fZ e.ix=0):RestC e (R' (I J c)):=⟨c,rfl,fun _=>⟨h,h'⟩⟩
theorem bW2(b:Nat)(s:EgS)(e:Eng)(w:World)(h:EgP w b s e)(hlv:aL e.lv=0):
  Calls prog 146 #[.pointer (Y ⟨b,0,O⟩)] w fun r w'=>RestC e r/\Below w.heap.size w w':=by
 have hn:=h.2.n9;have hx7:=h.2.n7;have hcm:=h.2.c8;obtain⟨_,_,_,_,x4,x5,_,_,_,_⟩:=h.all;have hbl:=h.lt;have HWl:=hid (Eq.refl (dW e.su e.lo));obtain⟨wc,HWc⟩:∃wc,Hid (dW e.su e.lo=wc):=⟨_,rfl⟩
 obtain⟨xc,HXc⟩:∃xc,Hid (fZ e.ix=xc):=⟨_,rfl⟩
 obtain⟨rm,HRm⟩:∃rm,Hid (vE e=rm):=⟨_,rfl⟩
 go_enter func146,ntmps146
 go_wp2_with fail
 refine(bB1 b 4 s.sa s.oa s.sn s.on s.sc s.oc e.su e.lo _ x4 x5 h.2.su h.2.lo h.2.bsu h.2.blo h.2.n5 h.2.n6 h.2.c5 h.2.c6).mono ?_;rintro r1 w1⟨rfl,hB⟩;rw[HWc.out];have hbl:b<w1.heap.size:=(h.below hB).lt;clear x4 x5;cases hwc:(wc !=0);rotate_left
 .go_wp2;go_ret;exact⟨RestC.bad (by simpa using hwc),hB⟩
 .have HW:Hid (dW e.su e.lo=0):=by show _=_;rw[HWc.out];simpa using hwc
  go_wp2_with fail
  refine(xM b s e _ (h.below hB)).mono ?_;rintro r2 w2⟨rfl,hw2⟩;rw[HRm.out];replace hB:=hB.trans (hw2.mono hB.size);obtain⟨_,_,_,_,_,_,x6,_,_,_⟩:=(h.below hB).all;have hbl:b<w2.heap.size:=(h.below hB).lt;clear hw2;cases hrm:decide (rm<0);rotate_left
  .go_wp2;go_ret;exact⟨RestC.bad (by decide),hB⟩
  .go_wp2_with fail
   refine(cC0 s.xa s.xn s.xc e.ix _ (h.below hB).2.ix h.2.n7).mono ?_;rintro r3 w3⟨rfl,hw3⟩;rw[HXc.out];replace hB:=hB.trans (hw3.mono hB.size);have h':=h.below hB;clear x6;obtain⟨_,x1,_,_,_,_,x6,x7,_,_⟩:=h'.all;have hbl:b<w3.heap.size:=h'.lt;clear hw3;cases hxc:(xc !=0);rotate_left
   .go_wp2;go_ret;exact⟨RestC.bad (by simpa using hxc),hB⟩
   .have HX:Hid (fZ e.ix=0):=by show _=_;rw[HXc.out];simpa using hxc
    obtain⟨bt,HBt⟩:∃bt,Hid (e.bt=bt):=⟨_,rfl⟩
    rw[HBt.out]at x7;clear HXc HWc HRm HWl;cases bt
    .by_cases h0:s.xn=0
     .have hp:¬0<s.xn:=by omega
      have hp':¬(0:Int)<(s.xn:Int):=by omega
      clear h0;go_wp2_with fail
      refine R0 (fun W'=>W'.cell? ⟨b,1,O⟩=Y (Z s.la s.ln s.lc)/\W'.cell? ⟨b,6,O⟩=Y (Z s.xa s.xn s.xc)/\W'.cell? ⟨b,7,O⟩=Y (X F')/\EgP W' b s e/\Below w.heap.size w W') (⟨x1,x6,x7,h'.below (u'.drew),hB.drew⟩) (fun hH=>?_);refine R5 0 1 2 3 4 ?_;refine R9 5 (h:=R9 6 (h:=R9 7 (h:=R9 8 (h:=R9 9 (h:=J3 ?_)))));refine R9 10 (h:=R9 11 (h:=R9 12 (h:=R9 13 (h:=R9 14 (h:=J3 ?_)))));refine R9 15 (h:=R8 16 (h:=R8 17 (h:=R8 18 (h:=R8 19 (h:=J3 ?_)))));refine R5 20 21 22 23 24 ?_;refine R5 25 26 27 28 29 ?_;refine R4 30 31 32 33 ?_;refine R6 34 (fun K hK=>?_);go_simp;refine(wN b s e _ hH.2.2.2.1).mono ?_;rintro r34 w34⟨⟨cv,rfl⟩,hw34⟩;refine hK.out _ _ ?_ (fun hH=>?_)
      .obtain⟨x1,x6,x7,h',hB⟩:=hH;exact⟨aC hw34 x1,aC hw34 x6,aC hw34 x7,h'.below hw34,hB.trans (hw34.mono hB.size)⟩
      clear hK K;refine R2 35 36 ?_;refine R7 ?_;obtain⟨x1,x6,x7,h',hB⟩:=hH;cases cv
      .simp only[Bool.not_false];go_wp2_with fail
       go_ret;exact⟨RestC.bad (by decide),hB⟩
      .simp only[Bool.not_true];go_wp2_with fail
       go_loopw [5] (fun i wr=>∃k:Nat,k<=s.an/\i=I J k/\Below w.heap.size w wr) (fun i _=>s.an-(intOf i).toNat)
       case atStart=>exact⟨0,Nat.zero_le _,rfl,hB⟩
       case round=>
        obtain⟨k,hk,rfl,hB⟩:=hrel;have h':=h.below hB;obtain⟨_,_,_,_,_,_,_,_,_,x9⟩:=h'.all;have hbl:=h'.lt;by_cases hlt:k<s.an
        .obtain⟨g,off,an,nn,cn,haa,a0,a1,a2,a3,a4,a5,_,_⟩:=h'.2.ac.act hlt;have x9':=x9;rw[haa]at x9';have hgl:=aD a0;generalize eK e.ac k=t at*;obtain⟨at1,ak,aa,ab,av,aan⟩:=t;simp only at a0 a1 a2 a3 a4 a5;clear x9;obtain⟨iv,HIv⟩:∃iv,Hid (isT e at1=iv):=⟨_,rfl⟩
         cases iv
         .go_wp2_with fail
          refine(nX b s e at1 _ h').mono ?_;rintro r9 w9⟨rfl,hw9⟩;obtain rfl:=hw9.symm;rw[HIv.out];go_wp2;go_ret;exact⟨RestC.bad (by decide),hB⟩
         .go_wp2_with fail
          refine(nX b s e at1 _ h').mono ?_;rintro r9 w9⟨rfl,hw9⟩;obtain rfl:=hw9.symm;rw[HIv.out];go_wp2_with fail
          refine(qA ak aa ab av _).mono ?_;rintro r9 w9⟨rfl,hw9⟩;have hB:=hB.trans (hw9.mono hB.size);generalize aN ak aa ab av=oc;cases hoc:(oc !=0)
          .go_wp2;go_roundw;case rel=>exact⟨k+1,by omega,by go_num,hB⟩
           case measure=>simp[intOf];omega
          .go_wp2;go_ret;exact⟨RestC.bad (by decide),hB⟩
        .obtain rfl:k=s.an:=by omega
         go_wp2;go_ret;exact⟨RestC.ok HW.out HX.out,hB⟩
     .have hp:0<s.xn:=by omega
      have hp':(0:Int)<(s.xn:Int):=by omega
      clear h0;go_wp2_with fail
      refine R0 (fun W'=>W'.cell? ⟨b,1,O⟩=Y (Z s.la s.ln s.lc)/\W'.cell? ⟨b,6,O⟩=Y (Z s.xa s.xn s.xc)/\W'.cell? ⟨b,7,O⟩=Y (X F')/\EgP W' b s e/\Below w.heap.size w W') (⟨x1,x6,x7,h'.below (u'.drew),hB.drew⟩) (fun hH=>?_);refine R5 0 1 2 3 4 ?_;refine R9 5 (h:=R9 6 (h:=R9 7 (h:=R9 8 (h:=R9 9 (h:=J3 ?_)))));refine R9 10 (h:=R9 11 (h:=R9 12 (h:=R9 13 (h:=R9 14 (h:=J3 ?_)))));refine R9 15 (h:=R8 16 (h:=R8 17 (h:=R8 18 (h:=R8 19 (h:=J3 ?_)))));refine R5 20 21 22 23 24 ?_;refine R5 25 26 27 28 29 ?_;refine R8 30 (h:=R8 31 (h:=R8 32 (h:=R9 33 (h:=R9 34 (h:=J3 ?_)))));refine R9 35 (h:=R8 36 (h:=J3 ?_));refine R7 ?_;obtain⟨x1,x6,x7,h',hB⟩:=hH;go_wp2_with fail
      go_ret;exact⟨RestC.bad (by decide),hB⟩
    .obtain⟨sm,HSm⟩:∃sm,Hid (lG e.ix (qQ e.lv)=sm):=⟨_,rfl⟩
     cases sm
     .go_wp2_with fail
      refine R0 (fun W'=>W'.cell? ⟨b,1,O⟩=Y (Z s.la s.ln s.lc)/\W'.cell? ⟨b,6,O⟩=Y (Z s.xa s.xn s.xc)/\W'.cell? ⟨b,7,O⟩=Y (X A')/\EgP W' b s e/\Below w.heap.size w W') (⟨x1,x6,x7,h'.below (u'.drew),hB.drew⟩) (fun hH=>?_);refine R5 0 1 2 3 4 ?_;refine R5 5 6 7 8 9 ?_;refine R3 10 11 12 ?_;refine R6 13 (fun K hK=>?_);go_simp;refine(aM5 s.la s.ln s.lc e.lv _ hH.2.2.2.1.2.lv h.2.n2 hlv).mono ?_;rintro r13 w13⟨g13,m13,c13,rfl,hm13,o13,hw13⟩;refine hK.out _ _ ?_ (fun hH=>?_)
      .obtain⟨x1,x6,x7,h',hB⟩:=hH;exact⟨aC hw13 x1,aC hw13 x6,aC hw13 x7,h'.below hw13,hB.trans (hw13.mono hB.size)⟩
      clear hK K;refine R6 14 (fun K hK=>?_);go_simp;refine(vI s.xa _ s.xn s.xc _ _ e.ix (qQ e.lv) _ hH.2.2.2.1.2.ix (aJ o13) h.2.n7 (by omega)).mono ?_;rintro r14 w14⟨rfl,hw14⟩;rw[HSm.out];refine hK.out _ _ ?_ (fun hH=>?_)
      .obtain⟨x1,x6,x7,h',hB⟩:=hH;exact⟨aC hw14 x1,aC hw14 x6,aC hw14 x7,h'.below hw14,hB.trans (hw14.mono hB.size)⟩
      clear hK K;refine R8 15 (h:=R8 16 (h:=R8 17 (h:=R9 18 (h:=R9 19 (h:=J3 ?_)))));refine R9 20 (h:=R9 21 (h:=R9 22 (h:=R9 23 (h:=R9 24 (h:=J3 ?_)))));refine R9 25 (h:=R9 26 (h:=R9 27 (h:=R9 28 (h:=R9 29 (h:=J3 ?_)))));refine R9 30 (h:=R8 31 (h:=R8 32 (h:=R9 33 (h:=R9 34 (h:=J3 ?_)))));refine R9 35 (h:=R8 36 (h:=J3 ?_));refine R7 ?_;obtain⟨x1,x6,x7,h',hB⟩:=hH;go_wp2_with fail
      go_ret;exact⟨RestC.bad (by decide),hB⟩
     .go_wp2_with fail
      refine R0 (fun W'=>W'.cell? ⟨b,1,O⟩=Y (Z s.la s.ln s.lc)/\W'.cell? ⟨b,6,O⟩=Y (Z s.xa s.xn s.xc)/\W'.cell? ⟨b,7,O⟩=Y (X A')/\EgP W' b s e/\Below w.heap.size w W') (⟨x1,x6,x7,h'.below (u'.drew),hB.drew⟩) (fun hH=>?_);refine R5 0 1 2 3 4 ?_;refine R5 5 6 7 8 9 ?_;refine R3 10 11 12 ?_;refine R6 13 (fun K hK=>?_);go_simp;refine(aM5 s.la s.ln s.lc e.lv _ hH.2.2.2.1.2.lv h.2.n2 hlv).mono ?_;rintro r13 w13⟨g13,m13,c13,rfl,hm13,o13,hw13⟩;refine hK.out _ _ ?_ (fun hH=>?_)
      .obtain⟨x1,x6,x7,h',hB⟩:=hH;exact⟨aC hw13 x1,aC hw13 x6,aC hw13 x7,h'.below hw13,hB.trans (hw13.mono hB.size)⟩
      clear hK K;refine R6 14 (fun K hK=>?_);go_simp;refine(vI s.xa _ s.xn s.xc _ _ e.ix (qQ e.lv) _ hH.2.2.2.1.2.ix (aJ o13) h.2.n7 (by omega)).mono ?_;rintro r14 w14⟨rfl,hw14⟩;rw[HSm.out];refine hK.out _ _ ?_ (fun hH=>?_)
      .obtain⟨x1,x6,x7,h',hB⟩:=hH;exact⟨aC hw14 x1,aC hw14 x6,aC hw14 x7,h'.below hw14,hB.trans (hw14.mono hB.size)⟩
      clear hK K;refine R5 15 16 17 18 19 ?_;refine R8 20 (h:=R8 21 (h:=R8 22 (h:=R8 23 (h:=R9 24 (h:=J3 ?_)))));refine R9 25 (h:=R9 26 (h:=R9 27 (h:=R9 28 (h:=R9 29 (h:=J3 ?_)))));refine R4 30 31 32 33 ?_;refine R6 34 (fun K hK=>?_);go_simp;refine(wN b s e _ hH.2.2.2.1).mono ?_;rintro r34 w34⟨⟨cv,rfl⟩,hw34⟩;refine hK.out _ _ ?_ (fun hH=>?_)
      .obtain⟨x1,x6,x7,h',hB⟩:=hH;exact⟨aC hw34 x1,aC hw34 x6,aC hw34 x7,h'.below hw34,hB.trans (hw34.mono hB.size)⟩
      clear hK K;refine R2 35 36 ?_;refine R7 ?_;obtain⟨x1,x6,x7,h',hB⟩:=hH;cases cv
      .simp only[Bool.not_false];go_wp2_with fail
       go_ret;exact⟨RestC.bad (by decide),hB⟩
      .simp only[Bool.not_true];go_wp2_with fail
       go_loopw [5] (fun i wr=>∃k:Nat,k<=s.an/\i=I J k/\Below w.heap.size w wr) (fun i _=>s.an-(intOf i).toNat)
       case atStart=>exact⟨0,Nat.zero_le _,rfl,hB⟩
       case round=>
        obtain⟨k,hk,rfl,hB⟩:=hrel;have h':=h.below hB;obtain⟨_,_,_,_,_,_,_,_,_,x9⟩:=h'.all;have hbl:=h'.lt;by_cases hlt:k<s.an
        .obtain⟨g,off,an,nn,cn,haa,a0,a1,a2,a3,a4,a5,_,_⟩:=h'.2.ac.act hlt;have x9':=x9;rw[haa]at x9';have hgl:=aD a0;generalize eK e.ac k=t at*;obtain⟨at1,ak,aa,ab,av,aan⟩:=t;simp only at a0 a1 a2 a3 a4 a5;clear x9;obtain⟨iv,HIv⟩:∃iv,Hid (isT e at1=iv):=⟨_,rfl⟩
         cases iv
         .go_wp2_with fail
          refine(nX b s e at1 _ h').mono ?_;rintro r9 w9⟨rfl,hw9⟩;obtain rfl:=hw9.symm;rw[HIv.out];go_wp2;go_ret;exact⟨RestC.bad (by decide),hB⟩
         .go_wp2_with fail
          refine(nX b s e at1 _ h').mono ?_;rintro r9 w9⟨rfl,hw9⟩;obtain rfl:=hw9.symm;rw[HIv.out];go_wp2_with fail
          refine(qA ak aa ab av _).mono ?_;rintro r9 w9⟨rfl,hw9⟩;have hB:=hB.trans (hw9.mono hB.size);generalize aN ak aa ab av=oc;cases hoc:(oc !=0)
          .go_wp2;go_roundw;case rel=>exact⟨k+1,by omega,by go_num,hB⟩
           case measure=>simp[intOf];omega
          .go_wp2;go_ret;exact⟨RestC.bad (by decide),hB⟩
        .obtain rfl:k=s.an:=by omega
         go_wp2;go_ret;exact⟨RestC.ok HW.out HX.out,hB⟩
structure Ch.Good(e:Ch.Eng):Prop where
 lv:aL e.lv=0
 lk:aS e.lk=0
 tn:e.tx.length<=20
 an:e.ac.length<=220
 tk:∀k,k<e.tx.length->TxFine e.lk k (aQ e.tx k)
 kn:KnownL e e.lk.length
 wal:dW e.su e.lo=0
 ix:fZ e.ix=0
theorem Ch.Good.un(h:Ch.Good e):∀k,k<e.tx.length->cT (aQ e.tx k).un=0:=fun k hk=>(h.tk k hk).un
def FaultC(e:Eng)(r:Ending):Prop:=∃c,r=R' (I J c)/\(c=0->Ch.Good e)
theorem FaultC.bad(h:c≠0):FaultC e (R' (I J c)):=⟨c,rfl,fun h0=>absurd h0 h⟩
theorem aC4(b:Nat)(s:EgS)(e:Eng)(w:World)(h:EgP w b s e):
  Calls prog 104 #[.pointer (Y ⟨b,0,O⟩)] w fun r w'=>FaultC e r/\Below w.heap.size w w':=by
 have hn:=h.2.n4;have hn9:=h.2.n9;have HTl:=h.2.tx.len;have HAl:=h.2.ac.len;obtain⟨x0,_,_,_,_,_,_,_,_,_⟩:=h.all;have hbl:=h.lt;obtain⟨bc,HBc⟩:∃bc,Hid (dM e.base=bc):=⟨_,rfl⟩
 obtain⟨lc,HLc⟩:∃lc,Hid (aL e.lv=lc):=⟨_,rfl⟩
 obtain⟨kc,HKc⟩:∃kc,Hid (aS e.lk=kc):=⟨_,rfl⟩
 go_enter func104,ntmps104
 go_wp2_with fail
 refine(tB s.ba s.bn s.bc e.base _ h.2.base h.2.n1).mono ?_;rintro r1 w1⟨rfl,hB⟩;rw[HBc.out];clear x0;obtain⟨_,x1,_,_,_,_,_,_,_,_⟩:=(h.below hB).all;have hbl:b<w1.heap.size:=(h.below hB).lt;cases hbc:(bc !=0);rotate_left
 .go_wp2;go_ret;exact⟨FaultC.bad (by simpa using hbc),hB⟩
 .clear HBc;go_wp2_with fail
  refine(cC1 s.la s.ln s.lc e.lv _ (h.below hB).2.lv h.2.n2).mono ?_;rintro r2 w2⟨rfl,hw2⟩;rw[HLc.out];replace hB:=hB.trans (hw2.mono hB.size);clear x1 hw2;obtain⟨_,_,x2,_,_,_,_,_,_,_⟩:=(h.below hB).all;have hbl:b<w2.heap.size:=(h.below hB).lt;cases hlc:(lc !=0);rotate_left
  .go_wp2;go_ret;exact⟨FaultC.bad (by simpa using hlc),hB⟩
  .have HL:Hid (aL e.lv=0):=by show _=_;rw[HLc.out];simpa using hlc
   clear HLc;go_wp2_with fail
   refine(bL2 s.ka s.kn s.kc e.lk _ (h.below hB).2.lk h.2.n3).mono ?_;rintro r3 w3⟨rfl,hw3⟩;rw[HKc.out];replace hB:=hB.trans (hw3.mono hB.size);clear x2 hw3;obtain⟨_,_,_,x3,_,_,_,_,_,x9⟩:=(h.below hB).all;have hbl:b<w3.heap.size:=(h.below hB).lt;cases hkc:(kc !=0);rotate_left
   .go_wp2;go_ret;exact⟨FaultC.bad (by simpa using hkc),hB⟩
   .have HK:Hid (aS e.lk=0):=by show _=_;rw[HKc.out];simpa using hkc
    clear HKc;by_cases ht:s.tn<=20;rotate_left
    .have ht':(20:Int)<(s.tn:Int):=by omega
     go_wp2;go_ret;exact⟨FaultC.bad (by decide),hB⟩
    .have ht':¬(20:Int)<(s.tn:Int):=by omega
     by_cases hac:s.an<=220;rotate_left
     .have hac':(220:Int)<(s.an:Int):=by omega
      go_wp2;go_ret;exact⟨FaultC.bad (by decide),hB⟩
     .have hac':¬(220:Int)<(s.an:Int):=by omega
      go_wp2_with fail
      go_loopw [6] (fun i wr=>∃k:Nat,k<=s.tn/\i=I J k/\Hid (∀j,j<k->TxFine e.lk j (aQ e.tx j))/\Below w.heap.size w wr) (fun i _=>s.tn-(intOf i).toNat)
      case atStart=>exact⟨0,Nat.zero_le _,rfl,hid (fun j hj=>by omega),hB⟩
      case round=>
       obtain⟨k,hk,rfl,HU,hB⟩:=hrel;have h':=h.below hB;obtain⟨_,_,_,x3,_,_,_,_,_,_⟩:=h'.all;have hbl:=h'.lt;by_cases hlt:k<s.tn
       .go_wp2_with fail
        refine(cM7 b s e k _ h' hlt).mono ?_;rintro r9 w9⟨⟨tc,rfl,HTc⟩,hw9⟩;replace hB:=hB.trans (hw9.mono hB.size);have HT:=hid HTc;clear HTc hw9;cases htc:(tc !=0)
        .have HT':Hid (TxFine e.lk k (aQ e.tx k)):=HT.out (by simpa using htc);clear HT;go_wp2;go_roundw;case rel=>exact⟨k+1,by omega,by go_num,hid (fun j hj=>by rcases Nat.lt_or_eq_of_le (Nat.le_of_lt_succ hj)with h1|rfl;exact HU.out j h1;exact HT'.out),hB⟩
         case measure=>simp[intOf];omega
        .go_wp2;go_ret;exact⟨FaultC.bad (by simpa using htc),hB⟩
       .obtain rfl:k=s.tn:=by omega
        go_wp2_with fail
        refine(bI7 b s e _ h').mono ?_;rintro r9 w9⟨⟨v,rfl,hv⟩,hw9⟩;obtain rfl:=hw9.symm;have HV:=hid hv;clear hv;cases v
        .go_wp2;go_ret;exact⟨FaultC.bad (by decide),hB⟩
        .go_wp2_with fail
         refine(bW2 b s e _ h' HL.out).mono ?_;rintro r9 w9⟨⟨rc,rfl,hrc⟩,hw9⟩;have HR:=hid hrc;clear hrc;replace hB:=hB.trans (hw9.mono hB.size);go_wp2;go_ret;exact⟨⟨rc,rfl,fun h0=>⟨HL.out,HK.out,by rw[<-HTl.out];exact ht,by rw[<-HAl.out];exact hac,by rw[<-HTl.out];exact HU.out,HV.out (by simp),(HR.out h0).1,(HR.out h0).2⟩⟩,hB⟩
end Go.Proofs.YtpbbokalojdooaaGreat
