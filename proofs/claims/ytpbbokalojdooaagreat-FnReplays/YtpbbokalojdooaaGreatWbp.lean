import Derived.Test.YtpbbokalojdooaaGreatWbo
namespace Go.Proofs.YtpbbokalojdooaaGreat
open Go.RowKit Ch Go.Proofs.Tryz
set_option linter.unusedSimpArgs false
set_option linter.unusedVariables false
set_option maxRecDepth 20000
set_option maxHeartbeats 8000000
open Value renaming int->I,slice->Z,bool->X,agg->U
open IntKind renaming i64->J
open Option renaming none->O,some->Y
open Obj renaming cells->M
open Ending renaming returned->R'
open Bool renaming true->A',false->F'
variable {b:Bool} {s:EgS} {ts:List Ac} {cs:List Int} {bs:List Row} {xs:List Value} {F H ob sb xb:Nat} {T:Nat->Nat} {a:Option Addr} {row:Option Nat} {e:TypeId} {W w:World}
def dP6(sb:Nat)(a:Option Addr)(n cap k:Nat)(zs:List Int)(w:World)(r:Ending)(w':World):Prop:=
 ∃s' b bs cs ts T' k',r=R' (U (s'.cells b))/\EgW 1048577 w' T' s' bs cs ts/\(∀x,x<w.heap.size->T' x=8)/\s'.mn<=100/\s'.an<=250/\k'<=k+340/\Src w' sb a n cap k' zs/\w.grownBy w' (Y sb)
theorem dL5(W:World)(x:Int):CellsAt (W.alloc (M #[I J x] 2)) (Y ⟨W.heap.size,0,O⟩) (1*1) (icells [x]):=
 ⟨rfl,fun _=>⟨_,_,rfl,fun j hj=>by
  obtain rfl:j=0:=by omega
  exact Ai _ _ 0 _ _ _ (aP rfl)⟩⟩
theorem Mid.acts(h:Mid F H ob xb sb W T s b bs cs ts)(h0:s.an≠0):∃g,s.aa=Y ⟨g,0,O⟩:=by
 obtain⟨us,ha⟩:=h.o.ac;obtain⟨cs,hr,_⟩:=ha.row;rcases hr.1.2 with⟨_,hz⟩|⟨g,cp,cur,hv,_⟩
 .exact absurd hz h0
 .simp only[Bg]at hv;exact⟨g,hv.1⟩
theorem dK6{W':World}{s:Nat}(h:w.grownBy W (Y s))(hg:W.grownBy W' row)(hb:∀r,row=Y r->w.heap.size<=r):w.grownBy W' (Y s):=
 ⟨hg.os.trans h.os,hg.tape.trans h.tape,hg.output.trans h.output,Ak h.size hg.size,fun k hk hne=>(hg.block k (At hk h.size) (fun e=>by have:=hb k e.symm;omega)).trans (h.block k hk hne)⟩
theorem Mid.more{F2:Nat}(h:Mid F H ob xb sb W T s b bs cs ts)(hF:F<=F2):Mid F2 H ob xb sb W T s b bs cs ts:=by obtain⟨us,ha⟩:=h.o.ac;exact⟨h.box,h.out,⟨h.o.base,h.o.cm,⟨us,ha.len,ha.row,ha.an,fun i=>Ak (ha.few i) hF⟩,h.o.n1⟩,h.mx,h.mo,h.ms,h.ne,h.sl,h.old,h.le,h.mn,h.an⟩
theorem Mid.act{g i:Nat}(h:Mid F H ob xb sb W T s b bs cs ts)(hg:s.aa=Y ⟨g,0,O⟩)(hi:i<s.an):
  (∀j,j<5->∃v,W.cell? ⟨g,i*6+j,O⟩=Y v)/\(∀j,W.frozen? ⟨g,j,O⟩=F')/\g≠xb/\g≠sb/\T g=7/\
   ∃au nu cu zs,W.cell? ⟨g,i*6+5,O⟩=Y (Z au nu cu)/\OwnT W 0 T (2*i+11) 2 1 (Z au nu cu) nu (icells zs)/\zs.length=nu/\nu<=F:=by
 obtain⟨us,ha⟩:=h.o.ac;rw[hg]at ha;obtain⟨cs,hr,hc⟩:=ha.row;have hx:=h.mx;have hs:=h.ms;have hT:T g=7:=hr.2 g rfl;have hcell:=fun j (hj:j<6)=>(hr.1.cellAt (i*6+j) (by have:=hr.1.1;omega)).trans (hc i j hi hj);have hn:=ha.an i hi;obtain⟨au,cu,hu⟩:=dT hn.1;refine⟨fun j hj=>⟨_,hcell j (by omega)⟩,fun j=>hr.1.frozenAt j,fun e=>by rw[e]at hT;omega,fun e=>by rw[e]at hT;omega,hT,au,_,cu,(aM ts i).an,?_,?_,rfl,ha.few i⟩
 .rw[<-hu];exact hcell 5 (by decide)
 .rw[<-hu];exact hn
theorem bP3(sb:Nat)(a:Option Addr)(n cap k:Nat)(zs:List Int)(w:World)(S:Src w sb a n cap k zs)(hb:IsB zs)(hn:n<=1048580)(hk:k<=50):
  Calls prog 44 #[.pointer (Y ⟨sb,0,O⟩)] w (dP6 sb a n cap k zs w):=by
 have hsw:=S.lt;have hb0:V' w (w.alloc (M #[Z O 0 0,Z O 0 0,Z O 0 0,Z O 0 0,Z O 0 0,Z O 0 0,Z O 0 0,X F',Z O 0 0,Z O 0 0] 68)):=(Aa _ _).alloc z' _;have S0:=S.below hb0 hsw;have G0:=cP9 hb0 (Y sb);have hO:(w.alloc (M #[Z O 0 0,Z O 0 0,Z O 0 0,Z O 0 0,Z O 0 0,Z O 0 0,Z O 0 0,X F',Z O 0 0,Z O 0 0] 68)).heap[w.heap.size]? =Y (M #[Z O 0 0,Z O 0 0,Z O 0 0,Z O 0 0,Z O 0 0,Z O 0 0,Z O 0 0,X F',Z O 0 0,Z O 0 0] 68 (0,0)):=aP rfl;go_enter func44,ntmps44
 go_upto_region 1 with fail
 generalize(w.alloc (M #[Z O 0 0,Z O 0 0,Z O 0 0,Z O 0 0,Z O 0 0,Z O 0 0,Z O 0 0,X F',Z O 0 0,Z O 0 0] 68))=W0 at*;have hz0:w.heap.size<W0.heap.size:=(Ab.1 hO).1;obtain⟨ob,hob⟩:∃ob,Hid (w.heap.size=ob):=⟨_,rfl⟩
 simp only[hob.out]at hO⊢;have hge:w.heap.size<=ob/\ob<W0.heap.size:=by have:=hob.out;omega
 clear hb0 hob;go_wp2_with fail
 refine(eD 30 sb a n cap k zs _ S0 hb hn (by omega) (by omega) (by omega)).mono ?_;rintro r W1⟨⟨v,v0,v1,rfl⟩,S1,g1⟩;have G1:=cC G0 g1;have hO1:=bS g1 hO (by simp;omega);have hz1:=g1.size;clear S0 hO G0 g1;go_wp2_with fail
 refine(bM7 v sb a n cap (k+1) zs _ S1 hb hn (by omega) v0 (by omega)).mono ?_;rintro r W2⟨s,e,T,k2,rfl,hN,hk2,S2,g2⟩;have G2:=cC G1 g2;have hO2:=bS g2 hO1 (by simp;omega);have hz2:=g2.size;have hsl2:=S2.lt;have hba:V' W2 (W2.alloc (M #[Z O 0 0,Z O 0 0,Z O 0 0,Z O 0 0,Z O 0 0,Z O 0 0,Z O 0 0,X F',Z O 0 0,Z O 0 0] 68)):=(Aa _ _).alloc z' _;have hXn:(W2.alloc (M #[Z O 0 0,Z O 0 0,Z O 0 0,Z O 0 0,Z O 0 0,Z O 0 0,Z O 0 0,X F',Z O 0 0,Z O 0 0] 68)).heap[W2.heap.size]? =Y (M #[Z O 0 0,Z O 0 0,Z O 0 0,Z O 0 0,Z O 0 0,Z O 0 0,Z O 0 0,X F',Z O 0 0,Z O 0 0] 68 (0,0)):=aP rfl;have h1c:(s.cells e.bt).all (·.oneCell')=A':=by simp[EgS.cells,Value.oneCell']
 have hTX:mrk T W2.heap.size 8 W2.heap.size=8:=by unfold mrk;rw[if_neg (by omega)]
 have hM:Mid 1048576 w.heap.size ob W2.heap.size sb ((W2.alloc (M #[Z O 0 0,Z O 0 0,Z O 0 0,Z O 0 0,Z O 0 0,Z O 0 0,Z O 0 0,X F',Z O 0 0,Z O 0 0] 68)).setRow W2.heap.size (s.cells e.bt)) (mrk T W2.heap.size 8) s e.bt e.base e.cm e.ac:=
  ⟨setRow_heap _ _ _ _ _ _ hXn,(Ew _ W2.heap.size ob _ (by omega)).trans ((cN (by omega)).trans hO2),((hN.o.kept (fun k' _ _=>aY hba T 8 k')).lite).kept (fun k' _ h8=>gC (oT _ W2.heap.size (s.cells e.bt)) hTX h8),
   hTX,by rw[dR (by omega)];exact hN.old ob (by omega),by rw[dR (by omega)];exact hN.old sb (by omega),by omega,by simp;omega,fun x hx=>by rw[dR (by omega)];exact hN.old x (by omega),by simp;omega,hN.mn,hN.an⟩
 have S3:=dM (S2.below hba S2.lt) (oT _ W2.heap.size (s.cells e.bt)) (fun j hj=>by cases hj;exact hsl2);have G3:=eP (iP G2 hba) (oT _ W2.heap.size (s.cells e.bt)) (by omega);go_upto_region 2 with(refine Fu rfl 68 (.tmp 3) (.tmp 8) rfl W2.heap.size (s.cells e.bt) rfl rfl _ _ hXn (by kernel_rfl) rfl h1c ?_)
 clear S2 G2 hO2 hN hba hXn h1c hTX S1 G1 hO1 g2;generalize(W2.alloc (M #[Z O 0 0,Z O 0 0,Z O 0 0,Z O 0 0,Z O 0 0,Z O 0 0,Z O 0 0,X F',Z O 0 0,Z O 0 0] 68)).setRow W2.heap.size (s.cells e.bt)=W at*;generalize mrk T W2.heap.size 8=T0 at*;generalize W2.heap.size=xb at*;obtain⟨⟨x0,x1,x2,x3,x4,x5,x6,x7,x8,x9⟩,f0,f1,f2,f3,f4,f5,f6,f7,f8,f9⟩:=eK hM.box;by_cases h0:s.an=0
 .have h0':((s.an:Int)==0)=A':=by simp[h0]
  obtain⟨kq,hkq,S9⟩:∃kq,kq<=k+320/\Src W sb a n cap kq zs:=⟨_,by omega,S3⟩
  obtain⟨s1,bb1,bs1,cs1,ts1,T1,hM9⟩:∃s1 bb1 bs1 cs1 ts1 T1,Mid 1048577 w.heap.size ob xb sb W T1 s1 bb1 bs1 cs1 ts1:=⟨_,_,_,_,_,_,hM.more (by decide)⟩
  have G9:=G3;go_upto_region 3 with fail
  clear x0 x1 x2 x3 x4 x5 x6 x7 x8 x9 f0 f1 f2 f3 f4 f5 f6 f7 f8 f9 hM S3 G3;obtain⟨⟨x0,x1,x2,x3,x4,x5,x6,x7,x8,x9⟩,-⟩:=eK hM9.box;obtain⟨⟨r0,r1,r2,r3,r4,r5,r6,r7,r8,r9⟩,f0,f1,f2,f3,f4,f5,f6,f7,f8,f9⟩:=eK hM9.out;have hput:=aO4 (Z s1.ba s1.bn s1.bc) (Z s1.la s1.ln s1.lc) (Z s1.ka s1.kn s1.kc) (Z s1.ta s1.tn s1.tc) (Z s1.sa s1.sn s1.sc) (Z s1.oa s1.on s1.oc) (Z s1.xa s1.xn s1.xc) (X bb1) (Z s1.ma s1.mn s1.mc) (Z s1.aa s1.an s1.ac) hM9.out;have hol:=aD r0;have hMz:=hid hM9;clear hM9;go_wp2;refine Ae (v:=U (s1.cells bb1)) (As Tryz.results44 _ _ ob 68 (s1.cells bb1) (0,0) _ rfl hput.1 underlying68 rfl (by kernel_rfl)) rfl ⟨s1,bb1,bs1,cs1,ts1,T1,kq,rfl,hMz.out.o.kept (fun k' _ h8=>gC hput.2 hMz.out.mo h8),hMz.out.old,hMz.out.mn,hMz.out.an,by omega,dM S9 hput.2 (fun j hj=>by cases hj;omega),eP G9 hput.2 (by omega)⟩
 have h0':((s.an:Int)==0)=F':=by simpa using h0
 obtain⟨g,hga⟩:=hM.acts h0;go_wp2_with fail
 clear x0 x1 x2 x3 x4 x5 x6 x7 x8 x9 f0 f1 f2 f3 f4 f5 f6 f7 f8 f9;refine(eD (s.an:Int) sb a n cap k2 zs _ S3 hb hn (by omega) (by omega) (by have:=hM.an;omega)).mono ?_;rintro r W4⟨⟨x,x0,x1,rfl⟩,S4,g4⟩;obtain⟨i,rfl⟩:∃i:Nat,x=(i:Int):=⟨x.toNat,by omega⟩
 have hi:i<s.an:=by omega
 have hM4:=hM.grown g4 (by omega) (by omega);have G4:=cC G3 g4;clear S3 G3 g4 hM;go_wp2_with fail
 refine(eD 9 sb a n cap (k2+1) zs _ S4 hb hn (by omega) (by omega) (by omega)).mono ?_;rintro r W5⟨⟨y,y0,y1,rfl⟩,S5,g5⟩;have hM5:=hM4.grown g5 (by omega) (by omega);have G5:=cC G4 g5;clear S4 G4 g5 hM4;generalize mrk (mrk T0 W.heap.size 8) W4.heap.size 8=T5 at*;have hwx:w.heap.size<=xb/\sb<xb/\sb<ob:=by omega
 clear hz0 hz1 hz2 hsl2;go_upto_block 0 with fail
 go_cut [] (fun wx=>∃(s1:EgS) (bb1:Bool) (bs1:List Row) (cs1:List Int) (ts1:List Ac) (T1:Nat->Nat) (kq:Nat),Mid 1048577 w.heap.size ob xb sb wx T1 s1 bb1 bs1 cs1 ts1/\kq<=k+320/\Src wx sb a n cap kq zs/\w.grownBy wx (Y sb))
 case first=>
  have hc:y=0\/y=1\/y=2\/y=3\/((y==0)=F'/\(y==1)=F'/\(y==2)=F'/\(y==3)=F'):=by
   by_cases h0:y=0
   .exact .inl h0
   .by_cases h1:y=1
    .exact .inr (.inl h1)
    .by_cases h2:y=2
     .exact .inr (.inr (.inl h2))
     .by_cases h3:y=3
      .exact .inr (.inr (.inr (.inl h3)))
      .exact .inr (.inr (.inr (.inr ⟨by simpa using h0,by simpa using h1,by simpa using h2,by simpa using h3⟩)))
  have hbd:V' W5 W5.drew:=(Aa _ _).drew;rcases hc with rfl|rfl|rfl|rfl|⟨n0,n1,n2,n3⟩
  .go_upto_region 7 with fail
   obtain⟨⟨-,-,-,-,-,-,-,-,-,x9⟩,-⟩:=eK hM5.box;rw[hga]at x9;refine R0 (fun W'=>W'.cell? ⟨xb,9,O⟩=Y (Z (Y ⟨g,0,O⟩) s.an s.ac)) x9 (fun hH=>?_);have hMv:=hM5.below hbd;have Sv:=S5.below hbd S5.lt;have Gv:=iP G5 hbd;clear hM5 S5 G5 hbd x9;generalize W5.drew=V at*;generalize mrk T5 W5.heap.size 8=Tv at*;have hMs:=hid hMv;obtain⟨_,hfz,hgx,hgs,hTg,au,nu,cu,us,q5,hU,hul,hun⟩:=hMv.act hga hi;have b1:V' V (V.alloc (M #[I J 3] 2)):=(Aa _ _).alloc z' _;have q5':=keep_cell b1 q5;have hH':=keep_cell b1 hH;clear hMv;refine R5 0 1 2 3 4 ?_;refine R3 5 6 7 ?_;refine J2 8 9 (fun K hK=>?_) (fun K hK=>?_);focus
    go_simp;refine hK.out _ _ hH (fun _=>?_);clear hK K;refine J3 (J1 9 (fun K hK=>?_));go_simp;refine hK.out _ _ hH' (fun _=>?_);clear hK K
   rotate_left;focus
    go_simp;refine hK.out _ _ hH' (fun _=>?_);clear hK K;refine J3 (J1 8 (fun K hK=>?_));go_simp;refine hK.out _ _ hH' (fun _=>?_);clear hK K
   rotate_left;all_goals
    have hC3:=dL5 V 3;have hU1:=aG hU.1 b1;have hold:=hMs.out.old;have hul2:us.length=nu:=hul;have hge7:∀r,(Z au nu cu).ownBlock=Y r->w.heap.size<=r:=fun r hr=>by
     rcases Cd r w.heap.size with h|h
     .have:=hold r h;have:=hU.2 r hr;omega
     .exact h
    have hnx:(Z au nu cu).ownBlock≠Y xb:=fun e=>by have:=hU.2 xb e;have:=hMs.out.mx;omega
    have hng:(Z au nu cu).ownBlock≠Y g:=fun e=>by have:=hU.2 g e;omega
    refine J3 (J1 10 (fun K hK=>?_));refine lZ tS (.tmp 31) (.tmp 32) rfl rfl 0 (Z au nu cu) nu (icells us) (Y ⟨V.heap.size,0,O⟩) 1 1 (icells [3]) rfl rfl hU1 hC3 (dC _) (by omega) (Ad _) ?_;intro a3 c3 V2 own3 gr3 at3;refine hK.out _ _ (aK gr3 hH' hnx) (fun _=>?_);clear hK K;have hgl:=aD q5;have hk2:∀k,k≠2*i+11->Kp k Tv (mrk (mrk Tv V.heap.size 8) (V.alloc (M #[I J 3] 2)).heap.size (2*i+11)) V V2:=fun k hk=>(aY b1 Tv 8 k).trans (dF gr3 (fun g' hg'=>by rw[dR (aH hU.1 g' hg').2];exact hU.2 g' hg') hk) b1.size;have hx:OwnT V2 0 (mrk (mrk Tv V.heap.size 8) (V.alloc (M #[I J 3] 2)).heap.size (2*i+11)) (2*i+11) 2 1 (Z a3 (nu+1) c3) (us++[3]).length (icells (us++[3])):=by
     have:=(hU.kept (aY b1 Tv 8 _)).grown own3 at3;have hl3:(us++[3]).length=nu+1:=by simp[hul]
     rw[show icells (us++[3])=icells us++icells [3]by simp[icells],hl3];exact this
    have hs2:V.heap.size<=V2.heap.size:=Ak b1.size gr3.size;have hMn:=hid (hMs.out.answer (F2:=1048577) hga hi hs2 hk2 hx (by decide) (by rw[Bv];simp;omega));have e7:=(hk2 7 (by omega) g hgl hTg).1;have q52:=aK gr3 q5' hng;have fz2:V2.frozen? ⟨g,i*6+5,O⟩=F':=by have:=hfz (i*6+5);unfold World.frozen? at this⊢;rw[e7];exact this
    have hgl2:=aD q52;have hst:V2.grownBy (V2.setCell ⟨g,i*6+5,O⟩ (Z a3 (nu+1) c3)) (Y g):=iI;have hgw:w.heap.size<=g:=by
     rcases Cd g w.heap.size with h|h
     .have:=hold g h;omega
     .exact h
    have Sn:=dM (dM (Sv.below b1 Sv.lt) gr3 (fun r hr=>At hsw (hge7 r hr))) hst (fun r hr=>by cases hr;omega);have Gn:=eP (dK6 (iP Gv b1) gr3 hge7) hst hgw;refine J3 ?_;refine R2 11 12 ?_;refine J1 13 (fun K hK=>?_);go_simp;refine hK.out _ _ (by rw[Eu (w:=V2) (mR hgx)];exact aK gr3 hH' hnx) (fun _=>?_);clear hK K;refine J3 (R7 ?_);go_wp2;go_meet;exact⟨_,_,_,_,_,_,_,hMn.out.more (by decide),by omega,Sn,Gn⟩
  .go_upto_region 9 with fail
   obtain⟨⟨-,-,-,-,-,-,-,-,-,x9⟩,-⟩:=eK hM5.box;rw[hga]at x9;refine R0 (fun W'=>W'.cell? ⟨xb,9,O⟩=Y (Z (Y ⟨g,0,O⟩) s.an s.ac)) x9 (fun hH=>?_);have hMv:=hM5.below hbd;have Sv:=S5.below hbd S5.lt;have Gv:=iP G5 hbd;have x9v:W5.drew.cell? ⟨xb,9,O⟩=Y (Z (Y ⟨g,0,O⟩) s.an s.ac):=x9;clear hM5 S5 G5 hbd x9;generalize W5.drew=V at*;generalize mrk T5 W5.heap.size 8=Tv at*;have hMs:=hid hMv;have hold:=hMv.old;have hvx:=(Ab.1 hMv.box).1;obtain⟨hcl,hfz,hgx,hgs,hTg,-⟩:=hMv.act hga hi;clear hMv;have hgw:w.heap.size<=g:=by
    rcases Cd g w.heap.size with h|h
    .have:=hold g h;omega
    .exact h
   refine R4 0 1 2 3 ?_;refine J1 4 (fun K hK=>?_);go_simp;refine(aT8 sb a n cap (k2+1+1) zs _ Sv hb hn (by omega)).mono ?_;rintro r V2⟨o1,o2,o3,o4,k6,rfl,hk6,S6,g6⟩;have hM6:=hMs.out.grown g6 (by omega) (by omega);have G6:=cC Gv g6;obtain⟨⟨-,-,-,-,-,-,-,-,-,x9'⟩,-⟩:=eK hM6.box;rw[hga]at x9';refine hK.out _ _ x9' (fun _=>?_);clear hK K hcl hfz hMs x9v hH Gv;obtain⟨hcl6,hfz6,-⟩:=hM6.act hga hi;obtain⟨u1,q1⟩:=hcl6 1 (by decide);obtain⟨u2,q2⟩:=hcl6 2 (by decide);obtain⟨u3,q3⟩:=hcl6 3 (by decide);obtain⟨u4,q4⟩:=hcl6 4 (by decide);have f1:=hfz6 (i*6+1);have f2:=hfz6 (i*6+2);have f3:=hfz6 (i*6+3);have f4:=hfz6 (i*6+4);have hgl:=aD q1;have hMn:=hid ((((hM6.cell hga hi (j:=1) (by decide) o1).cell hga hi (j:=2) (by decide) o2).cell hga hi (j:=3) (by decide) o3).cell hga hi (j:=4) (by decide) o4);have hst:V2.grownBy ((((V2.setCell ⟨g,i*6+1,O⟩ (I J o1)).setCell ⟨g,i*6+2,O⟩ (I J o2)).setCell ⟨g,i*6+3,O⟩ (I J o3)).setCell ⟨g,i*6+4,O⟩ (I J o4)) (Y g):=cM (cM (cM iI));clear hM6 hcl6 hfz6 Sv;refine J3 ?_;refine R2 5 6 ?_;refine J1 7 (fun K hK=>?_);go_simp;have Sn:=dM S6 hst (fun r hr=>by cases hr;omega);have Gn:=eP G6 hst hgw;obtain⟨⟨-,-,-,-,-,-,-,-,-,x9n⟩,-⟩:=eK hMn.out.box;rw[hga]at x9n;refine hK.out _ _ x9n (fun _=>?_);clear hK K;refine J3 (R7 ?_);go_wp2;go_meet;exact⟨_,_,_,_,_,_,_,hMn.out.more (by decide),by omega,Sn,Gn⟩
  .go_upto_region 11 with fail
   obtain⟨⟨-,-,-,-,-,-,-,-,-,x9⟩,-⟩:=eK hM5.box;rw[hga]at x9;refine R0 (fun W'=>W'.cell? ⟨xb,9,O⟩=Y (Z (Y ⟨g,0,O⟩) s.an s.ac)) x9 (fun hH=>?_);have hMv:=hM5.below hbd;have Sv:=S5.below hbd S5.lt;have Gv:=iP G5 hbd;have x9v:W5.drew.cell? ⟨xb,9,O⟩=Y (Z (Y ⟨g,0,O⟩) s.an s.ac):=x9;clear hM5 S5 G5 hbd x9;generalize W5.drew=V at*;generalize mrk T5 W5.heap.size 8=Tv at*;have hMs:=hid hMv;have hold:=hMv.old;have hvx:=(Ab.1 hMv.box).1;obtain⟨hcl,hfz,hgx,hgs,hTg,-⟩:=hMv.act hga hi;clear hMv;have hgw:w.heap.size<=g:=by
    rcases Cd g w.heap.size with h|h
    .have:=hold g h;omega
    .exact h
   have b1:V' V (V.alloc (M #[I J 1,I J 2,I J 0] 2)):=(Aa _ _).alloc z' _;have hH':=keep_cell b1 hH;refine R4 0 1 2 3 ?_;refine J1 4 (fun K hK=>?_);go_simp;refine hK.out _ _ hH' (fun _=>?_);clear hK K;refine J3 (J1 5 (fun K hK=>?_));go_simp;refine(qL V.heap.size 3 [1,2,0] sb a n cap (k2+1+1) zs _ (Sv.below b1 Sv.lt) hb hn (by omega) (aP rfl) (by have:=Sv.lt;omega) rfl (by omega) (by omega)).mono ?_;rintro r V2⟨⟨z,_,rfl⟩,S6,g6⟩;have hM6:=(hMs.out.below b1).grown g6 (by omega) (by omega);have G6:=cC (iP Gv b1) g6;obtain⟨⟨-,-,-,-,-,-,-,-,-,x9'⟩,-⟩:=eK hM6.box;rw[hga]at x9';refine hK.out _ _ x9' (fun _=>?_);clear hK K hcl hfz hMs x9v hH hH' Gv;obtain⟨hcl6,hfz6,-⟩:=hM6.act hga hi;obtain⟨u1,q1⟩:=hcl6 0 (by decide);have f1:=hfz6 (i*6);have q1:V2.cell? ⟨g,i*6,O⟩=Y u1:=q1;have hgl:=aD q1;have hMn:=hid (hM6.cell hga hi (j:=0) (by decide) z);have hst:V2.grownBy (V2.setCell ⟨g,i*6,O⟩ (I J z)) (Y g):=iI;clear hM6 hcl6 hfz6 Sv;refine J3 ?_;refine R2 6 7 ?_;refine J1 8 (fun K hK=>?_);go_simp;have Sn:=dM S6 hst (fun r hr=>by cases hr;omega);have Gn:=eP G6 hst hgw;obtain⟨⟨-,-,-,-,-,-,-,-,-,x9n⟩,-⟩:=eK hMn.out.box;rw[hga]at x9n;refine hK.out _ _ x9n (fun _=>?_);clear hK K;refine J3 (R7 ?_);go_wp2;go_meet;exact⟨_,_,_,_,_,_,_,hMn.out.more (by decide),by omega,Sn,Gn⟩
  .go_upto_region 13 with fail
   obtain⟨⟨-,-,-,-,-,-,-,-,-,x9⟩,-⟩:=eK hM5.box;rw[hga]at x9;refine R0 (fun W'=>True) Cm (fun hH=>?_);have hMv:=hM5.below hbd;have Sv:=S5.below hbd S5.lt;have Gv:=iP G5 hbd;have x9v:W5.drew.cell? ⟨xb,9,O⟩=Y (Z (Y ⟨g,0,O⟩) s.an s.ac):=x9;clear hM5 S5 G5 hbd x9;generalize W5.drew=V at*;generalize mrk T5 W5.heap.size 8=Tv at*;have hMs:=hid hMv;have hold:=hMv.old;have hvx:=(Ab.1 hMv.box).1;obtain⟨us,ha⟩:=hMv.o.ac;rw[hga]at ha;have hone:=ha.one;obtain⟨cs,hr,hcc⟩:=ha.row;have hgl:=(iY hr.1).2;have hTg:Tv g=7:=hr.2 g rfl;have hgx:g≠xb:=fun e=>by have:=hMv.mx;rw[e]at hTg;omega
   have hrc:=aO hr.1;have hcl:=hr.1.1;have hac:=gI hr.1;have han:=hMv.an;have hwr:IntKind.i64.wrap ((i:Int)+1)=(i:Int)+1:=Br _ ⟨by omega,by omega⟩;have hq1:i<=s.ac:=by omega
   have hq2:(0:Int)<=(i:Int)+1/\(i:Int)+1<=(s.an:Int):=by omega
   have f9:V.frozen? ⟨xb,9,O⟩=F':=An _ xb 9 _ _ hMv.box;clear hMv;have hgw:w.heap.size<=g:=by
    rcases Cd g w.heap.size with h|h
    .have:=hold g h;omega
    .exact h
   refine R5 0 2 4 6 7 ?_;refine J2 1 5 (fun K hK=>?_) (fun K hK=>?_);focus
    go_simp;refine hK.out _ _ Cm (fun _=>?_);clear hK K;refine J3 ?_;refine R1 3 ?_;refine J1 5 (fun K hK=>?_);go_simp;refine hK.out _ _ Cm (fun _=>?_);clear hK K;refine J3 ?_;refine R1 8 ?_
   rotate_left;focus
    go_simp;refine hK.out _ _ Cm (fun _=>?_);clear hK K;refine J3 ?_;refine R1 8 ?_;refine J1 1 (fun K hK=>?_);go_simp;refine hK.out _ _ Cm (fun _=>?_);clear hK K;refine J3 ?_;refine R1 3 ?_
   rotate_left;all_goals
    refine J1 9 (fun K hK=>?_);have hpre:=dG0 hr.1 (m:=i) (by omega);have hsuf:=dO7 hrc (k:=i+1) (by omega) hac;refine lZ aI6 (.tmp 60) (.tmp 65) rfl rfl 0 (Z (Y ⟨g,0,O⟩) i s.ac) i (cs.take (i*6)) _ (s.an-(i+1)) (s.ac-(i+1)) (cs.drop ((i+1)*6)) rfl rfl hpre hsuf (fun u hu=>hone cs hr.1.1 hcc u (Cz hu)) (by omega) (Ad _) ?_;intro a3 c3 V2 own3 gr3 at3;refine hK.out _ _ Cm (fun _=>?_);clear hK K;rw[show i+(s.an-(i+1))=s.an-1 by omega]at own3 at3;have hs2:V.heap.size<=V2.heap.size:=gr3.size;have hk2:∀k,k≠7->Kp k Tv (mrk Tv V.heap.size 7) V V2:=fun k hk=>dF gr3 (fun g' hg'=>by cases hg';exact hTg) hk;have hMn:=hMs.out.cut hga hi hs2 hk2 (a':=a3) (c':=c3) (fun cs' hr'=>by have e:cs'=cs:=cY1 hr' hr.1;rw[e];exact OwnT.grown (T:=Tv) (H:=0) (k:=7) ⟨hpre,hr.2⟩ own3 at3)
    have hgxs:(Z (Y ⟨g,0,O⟩) i s.ac).ownBlock≠Y xb:=fun e=>hgx (Option.some.inj e);have x92:=aK gr3 x9v hgxs;have e8:=(hk2 8 (by omega) xb hvx hMs.out.mx).1;have f92:V2.frozen? ⟨xb,9,O⟩=F':=by unfold World.frozen? at f9⊢;rw[e8];exact f9
    have hvx2:=aD x92;have hst:V2.grownBy (V2.setCell ⟨xb,9,O⟩ (Z a3 (s.an-1) c3)) (Y xb):=iI;have Sn:=dM (dM Sv gr3 (fun r hr=>by have:g=r:=Option.some.inj hr;omega)) hst (fun r hr=>by have:xb=r:=Option.some.inj hr;omega);have Gn:=eP (eP Gv gr3 hgw) hst (by omega);have hMn:=hid hMn;clear own3 at3 gr3 hk2 hs2 e8 hone hr hcc hrc hcl ha hpre hsuf x9v f9 hMs Sv Gv
    (try rw[show i+(s.an-(i+1))=s.an-1 by omega])
    refine J3 ?_;refine R1 10 ?_;refine J1 11 (fun K hK=>?_);go_simp;refine hK.out _ _ Cm (fun _=>?_);clear hK K;refine J3 (R7 ?_);go_wp2;all_goals
     go_meet;exact⟨_,_,_,_,_,_,_,hMn.out.more (by decide),by omega,Sn,Gn⟩
  .have hMn:=hid hM5;clear hM5;go_wp2;go_meet;exact⟨_,_,_,_,_,_,_,hMn.out.more (by decide),by omega,S5,G5⟩
 case rest=>
  obtain⟨W9,hwn⟩:∃x:World,x=wc:=⟨_,rfl⟩
  subst hwn;obtain⟨s1,bb1,bs1,cs1,ts1,T1,kq,hM9,hkq,S9,G9⟩:=hcut;clear hM5 S5 G5;obtain⟨⟨x0,x1,x2,x3,x4,x5,x6,x7,x8,x9⟩,-⟩:=eK hM9.box;obtain⟨⟨r0,r1,r2,r3,r4,r5,r6,r7,r8,r9⟩,f0,f1,f2,f3,f4,f5,f6,f7,f8,f9⟩:=eK hM9.out;have hput:=aO4 (Z s1.ba s1.bn s1.bc) (Z s1.la s1.ln s1.lc) (Z s1.ka s1.kn s1.kc) (Z s1.ta s1.tn s1.tc) (Z s1.sa s1.sn s1.sc) (Z s1.oa s1.on s1.oc) (Z s1.xa s1.xn s1.xc) (X bb1) (Z s1.ma s1.mn s1.mc) (Z s1.aa s1.an s1.ac) hM9.out;have hol:=aD r0;have hMz:=hid hM9;clear hM9;go_wp2;refine Ae (v:=U (s1.cells bb1)) (As Tryz.results44 _ _ ob 68 (s1.cells bb1) (0,0) _ rfl hput.1 underlying68 rfl (by kernel_rfl)) rfl ⟨s1,bb1,bs1,cs1,ts1,T1,kq,rfl,hMz.out.o.kept (fun k' _ h8=>gC hput.2 hMz.out.mo h8),hMz.out.old,hMz.out.mn,hMz.out.an,by omega,dM S9 hput.2 (fun j hj=>by cases hj;omega),eP G9 hput.2 (by omega)⟩
theorem dF9{base:Nat}{size:Nat}{n cap:Nat}(h:w.ownsRow base e size (Z a n cap) n xs):cap<=9223372036854775807:=by
 rcases h.2 with⟨hv,h0⟩|⟨g,cap',cur,hv,_,_,_,h1,_⟩
 .cases hv;omega
 .cases hv;unfold maxLen at h1;omega
theorem aJ7(a:Option Addr)(n cap:Nat)(zs:List Int)(w:World)(hc:CellsAt w a n (bts zs))(hb:IsB zs)(hn:n<=1048580):
  Calls prog 17 #[Z a n cap] w fun e w'=>∃a1 n1 c1 a2 n2 c2 a3 n3 c3 bs ts cs,e=R' (.tuple #[Z a1 n1 c1,Z a2 n2 c2,Z a3 n3 c3])/\n1<=1048576/\n2<=250/\n2<=c2/\c2<=9223372036854775807/\n3<=100/\n3<=c3/\CellsAt w' a1 (n1*3) (rcells bs)/\AcAt w' a2 n2 ts/\CellsAt w' a3 (n3*1) (icells cs)/\V' w w':=by
 go_enter func17,ntmps17
 go_wp2_with fail
 refine(cK0 a n cap zs _ hc).mono ?_;rintro r W1⟨rfl,S1,b1⟩;have hz1:=S1.lt;have G1:=cP9 b1 (Y w.heap.size);obtain⟨sb,hsb⟩:∃sb,Hid (w.heap.size=sb):=⟨_,rfl⟩
 simp only[hsb.out]at S1 G1 hz1⊢;clear b1;go_wp2_with fail
 refine(bP3 sb a n cap 0 zs _ S1 hb hn (by omega)).mono ?_;rintro r W2⟨s,bb,bs,cs,ts,T,k2,rfl,hE,hold,hmn,han,hk2,S2,g2⟩;have G2:=cC G1 g2;have hz2:=g2.size;have hsl2:=S2.lt;have hba:V' W2 (W2.alloc (M #[Z O 0 0,Z O 0 0,Z O 0 0,Z O 0 0,Z O 0 0,Z O 0 0,Z O 0 0,X F',Z O 0 0,Z O 0 0] 68)):=(Aa _ _).alloc z' _;have hXn:(W2.alloc (M #[Z O 0 0,Z O 0 0,Z O 0 0,Z O 0 0,Z O 0 0,Z O 0 0,Z O 0 0,X F',Z O 0 0,Z O 0 0] 68)).heap[W2.heap.size]? =Y (M #[Z O 0 0,Z O 0 0,Z O 0 0,Z O 0 0,Z O 0 0,Z O 0 0,Z O 0 0,X F',Z O 0 0,Z O 0 0] 68 (0,0)):=aP rfl;have h1c:(s.cells bb).all (·.oneCell')=A':=by simp[EgS.cells,Value.oneCell']
 have hTX:mrk T W2.heap.size 8 W2.heap.size=8:=by unfold mrk;rw[if_neg (by omega)]
 have hT8:mrk T W2.heap.size 8 sb=8:=by rw[dR hsl2];exact hold sb (by omega)
 have hE3:EgW 1048577 ((W2.alloc (M #[Z O 0 0,Z O 0 0,Z O 0 0,Z O 0 0,Z O 0 0,Z O 0 0,Z O 0 0,X F',Z O 0 0,Z O 0 0] 68)).setRow W2.heap.size (s.cells bb)) (mrk T W2.heap.size 8) s bs cs ts:=
  (hE.kept (fun k' _ _=>aY hba T 8 k')).kept (fun k' _ h8=>gC (oT _ W2.heap.size (s.cells bb)) hTX h8)
 have hX3:=setRow_heap _ W2.heap.size _ (s.cells bb) _ _ hXn;have S3:=dM (S2.below hba S2.lt) (oT _ W2.heap.size (s.cells bb)) (fun j hj=>by cases hj;exact hsl2);have G3:=eP (iP G2 hba) (oT _ W2.heap.size (s.cells bb)) (by have:=hsb.out;omega);go_upto_region 3 with(refine Fu rfl 68 (.tmp 6) (.tmp 10) rfl W2.heap.size (s.cells bb) rfl rfl _ _ hXn (by kernel_rfl) rfl h1c ?_)
 clear S2 G2 hE hba hXn h1c S1 G1 g2 hold;generalize(W2.alloc (M #[Z O 0 0,Z O 0 0,Z O 0 0,Z O 0 0,Z O 0 0,Z O 0 0,Z O 0 0,X F',Z O 0 0,Z O 0 0] 68)).setRow W2.heap.size (s.cells bb)=W at*;generalize mrk T W2.heap.size 8=T0 at*;generalize W2.heap.size=xb at*;go_wp2_with fail
 refine(mF 12 sb a n cap k2 zs _ S3 hb hn (by omega) (by omega) (by omega)).mono ?_;rintro r W4⟨⟨y,rfl⟩,S4,g4⟩;have hE4:=hE3.kept (fun k _ h8=>dF g4 (fun x hx=>by cases hx;exact hT8) h8);have hX4:=bS g4 hX3 (by simp;omega);have hXl:=(Ab.1 hX3).1;have hTX4:mrk T0 W.heap.size 8 xb=8:=by rw[dR hXl];exact hTX
 have hT84:mrk T0 W.heap.size 8 sb=8:=by rw[dR (by omega)];exact hT8
 have G4:=cC G3 g4;have hxl4:=(Ab.1 hX4).1;clear S3 G3 hE3 hX3 hTX hT8 g4 hXl;generalize mrk T0 W.heap.size 8=T4 at*;go_upto_if 12 with fail
 go_cut [] (fun wx=>∃(a1:Option Addr) (n1 c1:Nat) (bs1:List Row) (v1 v2 v3 v4 v5 v6 v7:Value),wx.heap[xb]? =Y (M #[Z a1 n1 c1,v1,v2,v3,v4,v5,v6,v7,Z s.ma s.mn s.mc,Z s.aa s.an s.ac] 68 (0,0))/\n1<=1048576/\CellsAt wx a1 (n1*3) (rcells bs1)/\AcAt wx s.aa s.an ts/\CellsAt wx s.ma (s.mn*1) (icells cs)/\w.grownBy wx (Y sb))
 case first=>
  cases y
  .obtain⟨us,ha⟩:=hE4.ac;have h1:=hE4.base.sub fK;have h2:=ha.at (by decide);have h3:=hE4.cm.cells;have hn1:=hE4.n1;clear hE4 ha S4;go_wp2;go_meet;exact⟨_,_,_,_,_,_,_,_,_,_,_,hX4,hn1,h1,h2,h3,G4⟩
  .go_wp2_with fail
   refine(dG1 sb a n cap (k2+1) zs _ S4 hb hn (by omega)).mono ?_;rintro r W5⟨⟨g,m,cp,rfl,hm,rs,own⟩,⟨k5,hk5,S5⟩,g5⟩;have hE5:=hE4.kept (fun k _ h8=>dF g5 (fun x hx=>by cases hx;exact hT84) h8);have hX5:=bS g5 hX4 (by simp;omega);have hTX5:mrk T4 W4.heap.size 8 xb=8:=by rw[dR hxl4];exact hTX4
   have G5:=cC G4 g5;have hgl:=iY own;have hst:W5.grownBy (W5.setCell ⟨xb,0,O⟩ (Z (Y ⟨g,0,O⟩) m cp)) (Y xb):=iI;have hE6:=hE5.kept (fun k _ h8=>gC hst hTX5 h8);have hX6:=Ag W5 xb 0 _ _ (Z (Y ⟨g,0,O⟩) m cp) hX5;have own6:=aN own hst (fun j hj e=>by cases hj;have:=Option.some.inj e;(try dsimp only at this);omega);have G6:=eP G5 hst (by have:=hsb.out;omega);obtain⟨us,ha⟩:=hE6.ac;have h2:=ha.at (by decide);have h3:=hE6.cm.cells;have h1:=aO own6;obtain⟨⟨x0,-,-,-,-,-,-,-,-,-⟩,f0,-,-,-,-,-,-,-,-,-⟩:=eK hX5;have hxl5:=aD x0;clear hE4 hE5 hE6 ha S4 S5 g5 own own6 hst;go_wp2;go_meet;exact⟨_,m,_,rs,_,_,_,_,_,_,_,hX6,by omega,h1,h2,h3,G6⟩
 case rest=>
  obtain⟨W9,hwn⟩:∃x:World,x=wc:=⟨_,rfl⟩
  subst hwn;obtain⟨a1,n1,c1,bs1,v1,v2,v3,v4,v5,v6,v7,hX,hn1,h1,h2,h3,G9⟩:=hcut;obtain⟨us,ha⟩:=hE4.ac;obtain⟨cs0,hr,-⟩:=ha.row;have hac:=gI hr.1;have hac2:=dF9 hr.1;have hmc:=gI hE4.cm.1;clear hE4 ha hr hX4 G4 S4;obtain⟨⟨x0,-,-,-,-,-,-,-,x8,x9⟩,-⟩:=eK hX;clear hX;go_upto_region 5 with fail
  go_wp2;go_quiet (fail)
  go_wp2;have hbq:=fun q=>Cj (Aa W9.heap.size W9) q;refine Ae (v:=.tuple #[Z a1 n1 c1,Z s.aa s.an s.ac,Z s.ma s.mn s.mc]) (by simp[results,Tryz.results17]) rfl ?_;exact⟨a1,n1,c1,s.aa,s.an,s.ac,s.ma,s.mn,s.mc,bs1,ts,cs,rfl,hn1,han,hac,hac2,hmn,hmc,h1.below (hbq _),h2.below (hbq _),h3.below (hbq _),⟨G9.os,G9.tape,G9.output,G9.size,fun k hk=>G9.block k hk (fun e=>by have:=hsb.out;cases e;omega)⟩⟩
end Go.Proofs.YtpbbokalojdooaaGreat
