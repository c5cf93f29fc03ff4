import Derived.Test.YtpbbokalojdooaaGreatWbm
namespace Go.Proofs.YtpbbokalojdooaaGreat
open Go.RowKit Ch Go.Proofs.Tryz
set_option linter.unusedSimpArgs false
set_option linter.unusedVariables false
set_option maxRecDepth 20000
set_option maxHeartbeats 8000000
open Value renaming int->I,slice->Z,bool->X,agg->U
open IntKind renaming i64->J
open Option renaming none->O,some->Y
open Obj renaming cells->M
open Ending renaming returned->R'
open Bool renaming true->A',false->F'
variable {K:Act->World->Prop} {ops:Array Oper} {cs old:Array Value} {s:EgS} {r:Ending} {e:Eng} {Q:Exit->Act->World->Prop} {zs:List Int} {tx':List Tx} {H M' Q' g:Nat} {T:Nat->Nat} {fr:Nat×Nat} {o:Oper} {x:Operand} {ev:Operand->Value} {a:Option Addr} {row:Option Nat} {P:Program} {d:TypeDesc} {t ty:TypeId} {W W' w w':World}
theorem EgX.setLive{b o:Nat}{tb k:Nat}(h:EgX w T b o cs t s e)(ha:s.ta=Y ⟨tb,0,O⟩)(hk:k<s.tn):
  ∃tx',EgX (((((w.setCell ⟨tb,k*8+2,O⟩ (I J 1)).setCell ⟨tb,k*8+4,O⟩ (I J 0)).setCell ⟨tb,k*8+4+1,O⟩ (I J 0)).setCell ⟨tb,k*8+4+2,O⟩ (I J 0)).setCell ⟨tb,k*8+4+3,O⟩ (I J 0)) T b o cs t s {e with tx:=tx'}/\
   Stp T T w (((((w.setCell ⟨tb,k*8+2,O⟩ (I J 1)).setCell ⟨tb,k*8+4,O⟩ (I J 0)).setCell ⟨tb,k*8+4+1,O⟩ (I J 0)).setCell ⟨tb,k*8+4+2,O⟩ (I J 0)).setCell ⟨tb,k*8+4+3,O⟩ (I J 0)) o cs cs/\
   tx'.length=e.tx.length/\∀i,(aS tx' i).un=(aS e.tx i).un:=by
 have hkl:k<e.tx.length:=by obtain⟨us,hT⟩:=h.own.tx;rw[hT.len];exact hk
 have U':∀(ts:List Tx) (t':Tx),k<ts.length->t'.un=(aS ts k).un->∀i,(aS (ts.set k t') i).un=(aS ts i).un:=by
  intro ts t' hl hu i;rw[iE _ _ _ _ hl];split
  .rename_i he;subst he;exact hu
  .rfl
 have h2:=h.setTx (j:=2) (v:=I J 1) (t':={aS _ k with st:=1}) ha hk (by decide) (fun x=>nJ rfl rfl rfl rfl rfl rfl rfl rfl) rfl;have h3:=h2.1.setTx (j:=4) (v:=I J 0) (t':={aS _ k with wk:=0}) ha hk (by decide) (fun x=>nJ rfl rfl rfl rfl rfl rfl rfl rfl) rfl;have h4:=h3.1.setTx (j:=5) (v:=I J 0) (t':={aS _ k with wa:=0}) ha hk (by decide) (fun x=>nJ rfl rfl rfl rfl rfl rfl rfl rfl) rfl;have h5:=h4.1.setTx (j:=6) (v:=I J 0) (t':={aS _ k with wb:=0}) ha hk (by decide) (fun x=>nJ rfl rfl rfl rfl rfl rfl rfl rfl) rfl;have h6:=h5.1.setTx (j:=7) (v:=I J 0) (t':={aS _ k with wv:=0}) ha hk (by decide) (fun x=>nJ rfl rfl rfl rfl rfl rfl rfl rfl) rfl;refine⟨_,h6.1,(((h2.2.trans h3.2).trans h4.2).trans h5.2).trans h6.2,by simp,fun i=>?_⟩;refine(U' _ _ (by simpa using hkl) (by rfl) i).trans ?_;refine(U' _ _ (by simpa using hkl) (by rfl) i).trans ?_;refine(U' _ _ (by simpa using hkl) (by rfl) i).trans ?_;refine(U' _ _ (by simpa using hkl) (by rfl) i).trans ?_;exact U' _ _ hkl (by rfl) i
theorem Ch.Ripe.withTx(h:Ripe e)(hl:tx'.length=e.tx.length)(hu:∀i,(aS tx' i).un=(aS e.tx i).un):Ripe {e with tx:=tx'}:=by
 have hl':({e with tx:=tx'}:Eng).tx.length=e.tx.length:=hl;refine⟨⟨h.fair.lv,h.fair.lk,?_,rfl,?_,fun k hk=>?_⟩,h.wal,h.ix,h.an⟩
 .rw[hl'];exact h.fair.nm
 .rw[hl'];exact h.fair.tn
 .show cY (aS tx' k).un=0;rw[hu k];exact h.fair.un k (by rw[hl']at hk;exact hk)
theorem bC2(tx:Int)(s:EgS)(e:Eng)(w:World)(h:EgR w s e)(hcm:e.cm.length+1<=1048576):
  Calls prog 110 #[U #[Z s.ba s.bn s.bc,Z s.la s.ln s.lc,Z s.ka s.kn s.kc,Z s.ta s.tn s.tc,Z s.sa s.sn s.sc,Z s.oa s.on s.oc,Z s.xa s.xn s.xc,X e.bt,Z s.ma s.mn s.mc,Z s.aa s.an s.ac],I J tx] w (EngQ (e.cm.length+1) w):=by
 have kW:V' w ((w.alloc (M #[Z s.ba s.bn s.bc,Z s.la s.ln s.lc,Z s.ka s.kn s.kc,Z s.ta s.tn s.tc,Z s.sa s.sn s.sc,Z s.oa s.on s.oc,Z s.xa s.xn s.xc,X e.bt,Z s.ma s.mn s.mc,Z s.aa s.an s.ac] 68)).alloc (M #[I J 0,X F',I J 0,Z O 0 0,Z O 0 0,Z O 0 0,Z O 0 0,Z O 0 0,Z O 0 0,Z O 0 0,Z O 0 0,Z O 0 0,X F',Z O 0 0,Z O 0 0] 112)):=((Aa _ _).alloc z' _).alloc (by simp) _;have hE:((w.alloc (M #[Z s.ba s.bn s.bc,Z s.la s.ln s.lc,Z s.ka s.kn s.kc,Z s.ta s.tn s.tc,Z s.sa s.sn s.sc,Z s.oa s.on s.oc,Z s.xa s.xn s.xc,X e.bt,Z s.ma s.mn s.mc,Z s.aa s.an s.ac] 68)).alloc (M #[I J 0,X F',I J 0,Z O 0 0,Z O 0 0,Z O 0 0,Z O 0 0,Z O 0 0,Z O 0 0,Z O 0 0,Z O 0 0,Z O 0 0,X F',Z O 0 0,Z O 0 0] 112)).heap[w.heap.size]? =Y (M (s.cells e.bt) 68 (0,0)):=(cN (by simp)).trans (aP rfl);have hRs:((w.alloc (M #[Z s.ba s.bn s.bc,Z s.la s.ln s.lc,Z s.ka s.kn s.kc,Z s.ta s.tn s.tc,Z s.sa s.sn s.sc,Z s.oa s.on s.oc,Z s.xa s.xn s.xc,X e.bt,Z s.ma s.mn s.mc,Z s.aa s.an s.ac] 68)).alloc (M #[I J 0,X F',I J 0,Z O 0 0,Z O 0 0,Z O 0 0,Z O 0 0,Z O 0 0,Z O 0 0,Z O 0 0,Z O 0 0,Z O 0 0,X F',Z O 0 0,Z O 0 0] 112)).heap[w.heap.size+1]? =Y (M (eA 0) 112 (0,0)):=aP (by simp);have hz0:Hid (((w.alloc (M #[Z s.ba s.bn s.bc,Z s.la s.ln s.lc,Z s.ka s.kn s.kc,Z s.ta s.tn s.tc,Z s.sa s.sn s.sc,Z s.oa s.on s.oc,Z s.xa s.xn s.xc,X e.bt,Z s.ma s.mn s.mc,Z s.aa s.an s.ac] 68)).alloc (M #[I J 0,X F',I J 0,Z O 0 0,Z O 0 0,Z O 0 0,Z O 0 0,Z O 0 0,Z O 0 0,Z O 0 0,Z O 0 0,Z O 0 0,X F',Z O 0 0,Z O 0 0] 112)).heap.size=w.heap.size+1+1):=by show _=_;simp
 go_enter func110,ntmps110
 go_upto_region 1 with fail
 generalize(w.alloc (M #[Z s.ba s.bn s.bc,Z s.la s.ln s.lc,Z s.ka s.kn s.kc,Z s.ta s.tn s.tc,Z s.sa s.sn s.sc,Z s.oa s.on s.oc,Z s.xa s.xn s.xc,X e.bt,Z s.ma s.mn s.mc,Z s.aa s.an s.ac] 68)).alloc (M #[I J 0,X F',I J 0,Z O 0 0,Z O 0 0,Z O 0 0,Z O 0 0,Z O 0 0,Z O 0 0,Z O 0 0,Z O 0 0,Z O 0 0,X F',Z O 0 0,Z O 0 0] 112)=W0 at*;obtain⟨rb,HRB⟩:∃rb,Hid (w.heap.size+1=rb):=⟨_,rfl⟩
 obtain⟨eb,HEB⟩:∃eb,Hid (w.heap.size=eb):=⟨_,rfl⟩
 simp only[HRB.out]at hRs⊢;simp only[HEB.out]at hE⊢;have hrb:w.heap.size<=rb/\rb<W0.heap.size:=by have:=hz0.out;have:=HRB.out;omega
 clear HRB hz0 HEB;have hP:EgP W0 eb s e:=⟨hE,h.below kW⟩
 have hbl:=hP.lt;go_wp2_with fail
 refine(aD1 eb s e tx _ hP).mono ?_;rintro r W1⟨⟨ac,rfl,hac⟩,hb1⟩;have HAC:=hid hac;clear hac;by_cases hc0:ac=0;rotate_left
 .have hcb:(ac !=0)=A':=by simpa using hc0
  go_wp2_with fail
  refine(fH ac _).mono ?_;rintro r W6⟨rfl,hb6⟩;have hB6:=hb1.trans (hb6.mono hb1.size);have hR6:W6.heap[rb]? =Y (M (eA 0) 112 (0,0)):=(hB6.block rb hrb.2).trans hRs;obtain⟨z0,z1,z2,z3,z4,z5,z6,z7,z8,z9,z10,z11,z12,z13,z14,zf⟩:=iC hR6;have zfz:=fun i=>zf i;have hput:=lW (I J ac) (X F') (I J 0) (Z O 0 0) (Z O 0 0) (Z O 0 0) (Z O 0 0) (Z O 0 0) (Z O 0 0) (Z O 0 0) (Z O 0 0) (Z O 0 0) (X F') (Z O 0 0) (Z O 0 0) hR6;have hrl:=aD z0;simp only[eA];clear zf hR6;go_wp2;refine Ae (v:=U (eA (ac))) (As Tryz.results110 _ _ rb 112 (eA (ac)) (0,0) _ rfl hput.1 underlying112 rfl (by kernel_rfl)) rfl (EngQ.bad _ _ ?_);exact cK (kW.trans (hB6.mono kW.size)) hput.2 (fun k hk=>by cases hk;exact hrb.1) (by have:=kW.size;have:=hB6.size;omega)
 have hcb:(ac !=0)=F':=by simpa using hc0
 obtain⟨hG,hT⟩:=HAC.out hc0;clear HAC;have htn:=hG.tn;have hTr:1<=tx/\tx<=e.tx.length:=by unfold isT at hT;exact fT hT
 obtain⟨i,hi0⟩:∃i:Nat,tx=(i:Int)+1:=⟨(tx-1).toNat,by omega⟩
 have hi:i<e.tx.length:=by omega
 have hw:IntKind.i64.wrap (tx-1)=(i:Int):=by rw[hi0,show(i:Int)+1-1=(i:Int)by omega];exact Br _ ⟨by omega,by omega⟩
 have HTX:=hid hi0;clear hi0 hT;have hP1:=hP.below hb1;have HTN:=hP1.2.tx.len;have his:i<s.tn:=by have:=HTN.out;omega
 obtain⟨_,_,_,x3,_,_,_,_,_,_⟩:=hP1.all;obtain⟨g,off,au,nu,cu,hta,t0,t1,t2,t3,t4,t5,t6,t7,_,_⟩:=hP1.2.tx.txn his;rw[hta]at x3;have HTA:=hid hta;clear hta;have hgl:=aD t0;have hbl1:=hP1.lt;have HTk:=hid (hG.tk i hi);obtain⟨tt,HTt⟩:∃tt,Hid (aS e.tx i=tt):=⟨_,rfl⟩
 rw[HTt.out]at t0 t1 t2 t4 t5 t6 t7 HTk;obtain⟨tid,tsy,tst,tun,twk,twa,twb,twv⟩:=tt;simp only at t0 t1 t2 t4 t5 t6 t7;have hb2:V' W1 (W1.alloc (M #[I J tid,X tsy,I J tst,Z au nu cu,I J twk,I J twa,I J twb,I J twv] 155)):=(Aa _ _).alloc z' _;have hTb:(W1.alloc (M #[I J tid,X tsy,I J tst,Z au nu cu,I J twk,I J twa,I J twb,I J twv] 155)).heap[W1.heap.size]? =Y (M #[I J tid,X tsy,I J tst,Z au nu cu,I J twk,I J twa,I J twb,I J twv] 155 (0,0)):=aP rfl;go_upto_region 5 with fail
 have hB2:=hb1.trans (hb2.mono hb1.size);generalize W1.alloc (M #[I J tid,X tsy,I J tst,Z au nu cu,I J twk,I J twa,I J twb,I J twv] 155)=W2 at*;obtain⟨tbx,htbx⟩:∃x,Hid (W1.heap.size=x):=⟨_,rfl⟩
 simp only[htbx.out]at hTb⊢;have htb0:tbx<W2.heap.size:=(Ab.1 hTb).1;obtain⟨⟨q0,q1,q2,_,q4,q5,q6,q7⟩,_⟩:=bZ7 hTb;have hP2:=hP.below hB2;clear x3 t0 t1 t2 t3 t4 t5 t6 t7 hb2 hgl hbl1 hbl q0 q1;by_cases hst:tst=2;rotate_left
 .have hsb:(tst !=2)=A':=by simpa using hst
  go_wp2_with fail
  refine(fH 10 _).mono ?_;rintro r W6⟨rfl,hb6⟩;have hB6:=hB2.trans (hb6.mono hB2.size);have hR6:W6.heap[rb]? =Y (M (eA 0) 112 (0,0)):=(hB6.block rb hrb.2).trans hRs;obtain⟨z0,z1,z2,z3,z4,z5,z6,z7,z8,z9,z10,z11,z12,z13,z14,zf⟩:=iC hR6;have zfz:=fun i=>zf i;have hput:=lW (I J 10) (X F') (I J 0) (Z O 0 0) (Z O 0 0) (Z O 0 0) (Z O 0 0) (Z O 0 0) (Z O 0 0) (Z O 0 0) (Z O 0 0) (Z O 0 0) (X F') (Z O 0 0) (Z O 0 0) hR6;have hrl:=aD z0;simp only[eA];clear zf hR6;go_wp2;refine Ae (v:=U (eA (10))) (As Tryz.results110 _ _ rb 112 (eA (10)) (0,0) _ rfl hput.1 underlying112 rfl (by kernel_rfl)) rfl (EngQ.bad _ _ ?_);exact cK (kW.trans (hB6.mono kW.size)) hput.2 (fun k hk=>by cases hk;exact hrb.1) (by have:=kW.size;have:=hB6.size;omega)
 have hsb:(tst !=2)=F':=by simpa using hst
 have HOp:Hid (aF twk twa twb twv=0):=HTk.out.op hst;clear HTt HTk hst;have x2:=hP2.all.2.2.1;have hLk:=hP2.2.lk;have hbl2:=hP2.lt;go_wp2_with fail
 refine(mM s.ka s.kn s.kc tx e.lk _ hLk hP2.2.n3).mono ?_;rintro r W3⟨rfl,hw3⟩;obtain rfl:=hw3.symm;obtain⟨wt,HWt⟩:∃wt,Hid (eH e.lk tx=wt):=⟨_,rfl⟩
 simp only[HWt.out];clear hLk x2;by_cases hwt:0<=wt
 .skip
  go_wp2_with fail
  refine(fH 8 _).mono ?_;rintro r W6⟨rfl,hb6⟩;have hB6:=hB2.trans (hb6.mono hB2.size);have hR6:W6.heap[rb]? =Y (M (eA 0) 112 (0,0)):=(hB6.block rb hrb.2).trans hRs;obtain⟨z0,z1,z2,z3,z4,z5,z6,z7,z8,z9,z10,z11,z12,z13,z14,zf⟩:=iC hR6;have zfz:=fun i=>zf i;have hput:=lW (I J 8) (X F') (I J 0) (Z O 0 0) (Z O 0 0) (Z O 0 0) (Z O 0 0) (Z O 0 0) (Z O 0 0) (Z O 0 0) (Z O 0 0) (Z O 0 0) (X F') (Z O 0 0) (Z O 0 0) hR6;have hrl:=aD z0;simp only[eA];clear zf hR6;go_wp2;refine Ae (v:=U (eA (8))) (As Tryz.results110 _ _ rb 112 (eA (8)) (0,0) _ rfl hput.1 underlying112 rfl (by kernel_rfl)) rfl (EngQ.bad _ _ ?_);exact cK (kW.trans (hB6.mono kW.size)) hput.2 (fun k hk=>by cases hk;exact hrb.1) (by have:=kW.size;have:=hB6.size;omega)
 have HWT:Hid (eH e.lk tx<0):=by show _<_;rw[HWt.out];omega
 clear HWt;go_wp2_with fail
 refine(aK5 twk twa twb twv tx i eb s e _ hP2 his HTX.out).mono ?_;rintro r W4⟨⟨x,rfl,hx⟩,hb4⟩;have hB4:=hB2.trans (hb4.mono hB2.size);cases x;rotate_left
 .skip
  go_wp2_with fail
  refine(fH 2 _).mono ?_;rintro r W6⟨rfl,hb6⟩;have hB6:=hB4.trans (hb6.mono hB4.size);have hR6:W6.heap[rb]? =Y (M (eA 0) 112 (0,0)):=(hB6.block rb hrb.2).trans hRs;obtain⟨z0,z1,z2,z3,z4,z5,z6,z7,z8,z9,z10,z11,z12,z13,z14,zf⟩:=iC hR6;have zfz:=fun i=>zf i;have hput:=lW (I J 2) (X F') (I J 0) (Z O 0 0) (Z O 0 0) (Z O 0 0) (Z O 0 0) (Z O 0 0) (Z O 0 0) (Z O 0 0) (Z O 0 0) (Z O 0 0) (X F') (Z O 0 0) (Z O 0 0) hR6;have hrl:=aD z0;simp only[eA];clear zf hR6;go_wp2;refine Ae (v:=U (eA (2))) (As Tryz.results110 _ _ rb 112 (eA (2)) (0,0) _ rfl hput.1 underlying112 rfl (by kernel_rfl)) rfl (EngQ.bad _ _ ?_);exact cK (kW.trans (hB6.mono kW.size)) hput.2 (fun k hk=>by cases hk;exact hrb.1) (by have:=kW.size;have:=hB6.size;omega)
 have hac:e.ac.length<=199:=by have h1:=hx rfl;have h2:=h.ac.len.out;omega
 clear hx;have kB4:=kW.trans (hB4.mono kW.size);have hP4:=hP.below hB4;obtain⟨x0,x1,x2,x3,x4,x5,x6,x7,x8,x9⟩:=hP4.all;have hbl4:=hP4.lt;go_wp2_with fail
 refine(xY s e _ hP4.2 hG.lv).mono ?_;rintro r W5⟨⟨s1,T5,rfl,hC,hT8⟩,hb5⟩;simp only[EgS.cells];have hb6:V' W5 (W5.alloc (M #[Z s1.ba s1.bn s1.bc,Z s1.la s1.ln s1.lc,Z s1.ka s1.kn s1.kc,Z s1.ta s1.tn s1.tc,Z s1.sa s1.sn s1.sc,Z s1.oa s1.on s1.oc,Z s1.xa s1.xn s1.xc,X e.bt,Z s1.ma s1.mn s1.mc,Z s1.aa s1.an s1.ac] 68)):=(Aa _ _).alloc z' _;have hX6:EgX (W5.alloc (M #[Z s1.ba s1.bn s1.bc,Z s1.la s1.ln s1.lc,Z s1.ka s1.kn s1.kc,Z s1.ta s1.tn s1.tc,Z s1.sa s1.sn s1.sc,Z s1.oa s1.on s1.oc,Z s1.xa s1.xn s1.xc,X e.bt,Z s1.ma s1.mn s1.mc,Z s1.aa s1.an s1.ac] 68)) (mrk T5 W5.heap.size 1) W5.heap.size 0 (s1.cells e.bt) 68 s1 e:=
  ⟨hC.kept (fun k _ _=>aY hb6 T5 1 k),aP rfl,fun j hj=>by rw[Al],by unfold mrk;rw[if_neg (by omega)]⟩
 have hP6:Past W4 (mrk T5 W5.heap.size 1) (W5.alloc (M #[Z s1.ba s1.bn s1.bc,Z s1.la s1.ln s1.lc,Z s1.ka s1.kn s1.kc,Z s1.ta s1.tn s1.tc,Z s1.sa s1.sn s1.sc,Z s1.oa s1.on s1.oc,Z s1.xa s1.xn s1.xc,X e.bt,Z s1.ma s1.mn s1.mc,Z s1.aa s1.an s1.ac] 68)):=⟨hb5.trans (hb6.mono hb5.size),fun x hx=>by rw[dR (by have:=hb5.size;omega)];exact hT8 x hx⟩
 have HS1:=hid hC.sizes;go_upto_region 12 with fail
 clear x0 x1 x2 x3 x4 x5 x6 x7 x8 x9 hT8 hC hP4 hbl4 hb5 hb6;generalize W5.alloc (M #[Z s1.ba s1.bn s1.bc,Z s1.la s1.ln s1.lc,Z s1.ka s1.kn s1.kc,Z s1.ta s1.tn s1.tc,Z s1.sa s1.sn s1.sc,Z s1.oa s1.on s1.oc,Z s1.xa s1.xn s1.xc,X e.bt,Z s1.ma s1.mn s1.mc,Z s1.aa s1.an s1.ac] 68)=W6 at*;generalize mrk T5 W5.heap.size 1=T6 at*;generalize W5.heap.size=xb at*;have his1:i<s1.tn:=by have:=HS1.out.1;omega
 obtain⟨us,hTx⟩:=hX6.own.tx;obtain⟨tb,hta⟩:=hTx.place (by omega);have HTA1:=hid hta;clear hta hTx us;obtain⟨tx',hX7,hS7,hl7,hu7⟩:=hX6.setLive HTA1.out his1;have HU7:=hid hu7;have HL7:=hid hl7;clear hu7 hl7;have hP7:=hP6.stp hS7;have htb2:T6 tb=2:=hX6.tb2 HTA1.out his1;have hbt:¬tb=xb:=by have h1:=hX6.tag;intro he;subst he;omega
 have hbt':¬xb=tb:=fun he=>hbt he.symm;have y3:=hX6.all.2.2.2.1;simp only[Al]at y3;rw[HTA1.out]at y3;obtain⟨⟨v2,t2⟩,_,⟨v4,t4⟩,⟨v5,t5⟩,⟨v6,t6⟩,⟨v7,t7⟩,fz⟩:=hX6.cellsTx HTA1.out his1;have fz2:=fz (i*8+2);have fz4:=fz (i*8+4);have fz5:=fz (i*8+4+1);have fz6:=fz (i*8+4+2);have fz7:=fz (i*8+4+3);have htl:=aD t2;have hxl:=hX6.lt;go_upto_region 14 with fail
 clear y3 t2 t4 t5 t6 t7 fz fz2 fz4 fz5 fz6 fz7 hX6 hP6 hS7;generalize((((W6.setCell ⟨tb,i*8+2,O⟩ (I J 1)).setCell ⟨tb,i*8+4,O⟩ (I J 0)).setCell ⟨tb,i*8+4+1,O⟩ (I J 0)).setCell ⟨tb,i*8+4+2,O⟩ (I J 0)).setCell ⟨tb,i*8+4+3,O⟩ (I J 0)=W7 at*;have hB7:=hb4.trans (hP7.bel.mono hb4.size);obtain⟨x0,x1,x2,x3,x4,x5,x6,x7,x8,x9⟩:=hX7.all;simp only[Al]at x0 x1 x2 x3 x4 x5 x6 x7 x8 x9;have q4:=keep_cell hB7 q4;have q5:=keep_cell hB7 q5;have q6:=keep_cell hB7 q6;have q7:=keep_cell hB7 q7;have hql:=aD q4;have hxl:=hX7.lt;have hBB:=hB4.trans (hP7.bel.mono hB4.size);have kB7:=kW.trans (hBB.mono kW.size);have hRW:W7.heap[rb]? =Y (M (eA 0) 112 (0,0)):=(hBB.block rb hrb.2).trans hRs;have hrb4:rb<W7.heap.size:=by have:=hBB.size;omega
 have hR7:=hX7.own.read;go_wp2_with fail
 refine(aW7 twk twa twb twv tx i s1 _ _ hR7 (hG.ripe.withTx HL7.out HU7.out) hac (by show i<tx'.length;have:=HL7.out;omega) HTX.out HOp.out HWT.out hcm).mono ?_;rintro r W8 hq;clear x0 x1 x2 x3 x4 x5 x6 x7 x8 x9 q4 q5 q6 q7 hX7 hP7 hR7 hB7 hql hxl;obtain⟨c7,wt7,id7,xa7,xn7,xc7,ya7,yn7,yc7,s7,bt7,e7,T7,rfl,hbt7,hO7,hP7,hm1,hm2,hm3,hm4⟩:=hq;have HBT:=hid hbt7;clear hbt7;have hR7:W8.heap[rb]? =Y (M (eA 0) 112 (0,0)):=(hP7.bel.block rb hrb4).trans hRW;obtain⟨z0,z1,z2,z3,z4,z5,z6,z7,z8,z9,z10,z11,z12,z13,z14,zf⟩:=iC hR7;have zfz:=fun i=>zf i;have hput:=lW (I J c7) (X wt7) (I J id7) (Z xa7 xn7 xc7) (Z ya7 yn7 yc7) (Z s7.ba s7.bn s7.bc) (Z s7.la s7.ln s7.lc) (Z s7.ka s7.kn s7.kc) (Z s7.ta s7.tn s7.tc) (Z s7.sa s7.sn s7.sc) (Z s7.oa s7.on s7.oc) (Z s7.xa s7.xn s7.xc) (X bt7) (Z s7.ma s7.mn s7.mc) (Z s7.aa s7.an s7.ac) hR7;have hrl:=aD z0;have hT8:T7 rb=8:=hP7.old rb hrb4;simp only[oD];clear zf hR7;go_wp2;refine Ae (v:=U (oD c7 wt7 id7 (Z xa7 xn7 xc7) (Z ya7 yn7 yc7) s7 bt7)) (As Tryz.results110 _ _ rb 112 (oD c7 wt7 id7 (Z xa7 xn7 xc7) (Z ya7 yn7 yc7) s7 bt7) (0,0) _ rfl hput.1 underlying112 rfl (by kernel_rfl)) rfl ⟨c7,wt7,id7,xa7,xn7,xc7,ya7,yn7,yc7,s7,bt7,e7,T7,rfl,HBT.out,hO7.kept (T':=T7) (fun k _ h8=>gC hput.2 hT8 h8),⟨cK (kB7.trans (hP7.bel.mono kB7.size)) hput.2 (fun k hk=>by cases hk;exact hrb.1) (by have:=kB7.size;have:=hP7.bel.size;omega),fun x hx=>hP7.old x (by have:=kB7.size;omega)⟩,hm1,hm2,hm3,hm4⟩
structure Hand(H Q':Nat)(w:World)(T:Nat->Nat)(s:EgS)(e:Eng):Prop where
 o:EgO w 0 T s e
 old:∀x,x<H->T x=8
 le:H<=w.heap.size
 mn:s.mn<=Q'
 tn:s.tn<=21
 an:s.an<=250
 wal:s.sn+s.on<=100000
theorem Hand.grown(h:Hand H Q' w T s e)(hg:w.grownBy w' (Y g))(hl:g<H):Hand H Q' w' (mrk T w.heap.size 8) s e:=
 ⟨h.o.kept (fun k _ h8=>dF hg (fun x hx=>by cases hx;exact h.old g hl) h8),fun x hx=>by rw[dR (At hx h.le)];exact h.old x hx,Ak h.le hg.size,h.mn,h.tn,h.an,h.wal⟩
theorem Hand.more(h:Hand H Q' w T s e)(hm:Q'<=M'):Hand H M' w T s e:=⟨h.o,h.old,h.le,Ak h.mn hm,h.tn,h.an,h.wal⟩
theorem cQ1(h:EgO w' 0 T s e)(hp:Past w T w')(hH:H<=w.heap.size)(h1:s.mn<=Q')(h2:s.tn<=21)(h3:s.an<=250)(h4:s.sn+s.on<=100000):Hand H Q' w' T s e:=
 ⟨h,fun x hx=>hp.old x (by omega),Ak hH hp.bel.size,h1,h2,h3,h4⟩
theorem cP9(h:V' w w')(row:Option Nat):w.grownBy w' row:=⟨h.os,h.tape,h.output,h.size,fun k hk _=>h.block k hk⟩
theorem iP(h:w.grownBy W row)(hb:V' W W'):w.grownBy W' row:=dD5 h (hb.mono h.size)
theorem Hand.low{H':Nat}(h:Hand H' Q' w T s e)(hl:H<=H'):Hand H Q' w T s e:=⟨h.o,fun x hx=>h.old x (by omega),by have:=h.le;omega,h.mn,h.tn,h.an,h.wal⟩
theorem oT(w:World)(g:Nat)(cs:Array Value):w.grownBy (w.setRow g cs) (Y g):=⟨rfl,rfl,rfl,by simp,fun k _ hne=>Ew w g k cs (fun e=>hne (by rw[e]))⟩
theorem cQ9(hg:W.heap[g]? =Y (M cs t fr))(hu:P.underlying ty=Y d)
  (ho:o.op= .load ty x:=by rfl) (hx:ev x= .pointer (Y ⟨g,0,O⟩):=by rfl) (hd:(match d with|.struct _|.array _ _=>A'|_=>F')=A':=by rfl) (hi:(P.info? ty).map (·.size)=Y cs.size:=by kernel_rfl):
  (execOp ev o).run P W= .ok (.value (U cs)) W:=by
 unfold execOp;simp only[ho,hx,Instr.loadAt,Instr.sureAddr,Sem.run_bind,Sem.run_pure,Result.andThen_ok,run_loadVar_row W g t ty cs fr d hg hu hd hi]
theorem dI4{a:Act}{E:Prop}{y:Operand}(cs:Array Value)(hg:w.heap[g]? =Y (M old t (0,0)))
  (h:K (a.put o.dst undef) (w.setRow g cs)) (h1:cs.all (·.oneCell')=A':=by rfl) (ho:o.op= .store ty x y:=by rfl) (hx:a.eval x= .pointer (Y ⟨g,0,O⟩):=by rfl) (hy:a.eval y=U cs:=by rfl)
  (hi:(P.info? ty).map (·.size)=Y cs.size:=by kernel_rfl) (hs:old.size=cs.size:=by rfl) (hgd:o.guard=O:=by rfl):if Region.wanted o (yielded ops a.tmps)=A' then Oper.wp P o a w K Q else E:=by
 rw[if_pos (by simp[Region.wanted,hgd])];exact wp_store_row ty x y ho g cs hx hy t old hg hi hs h1 h
def dQ0(H Q' sb rb:Nat)(a:Option Addr)(n cap k:Nat)(zs:List Int)(w w':World):Prop:=
 ∃c wt id xa xn xc ya yn yc s' bt e' T' k',w'.heap[rb]? =Y (M (oD c wt id (Z xa xn xc) (Z ya yn yc) s' bt) 112 (0,0))/\bt=e'.bt/\Hand H Q' w' T' s' e'/\k'<=k+8/\Src w' sb a n cap k' zs/\w.grownBy w' (Y sb)
theorem EngQ.bel(h:EngQ Q' w r w'):V' w w':=by obtain⟨c,wt,id,xa,xn,xc,ya,yn,yc,s',bt,e',T',_,_,_,hP,_⟩:=h;exact hP.bel
theorem EngQ.more(h:EngQ Q' w r w')(hm:Q'<=M'):EngQ M' w r w':=by obtain⟨c,wt,id,xa,xn,xc,ya,yn,yc,s',bt,e',T',h1,h2,h3,h4,h5,h6⟩:=h;exact⟨c,wt,id,xa,xn,xc,ya,yn,yc,s',bt,e',T',h1,h2,h3,h4,Ak h5 hm,h6⟩
theorem EngQ.put{sb rb:Nat}{n cap k k':Nat}(h:EngQ Q' W r W')(hH:H<=W.heap.size)(hr:rb<W.heap.size)(hrb:w.heap.size<=rb)(hR:∃cs,W.heap[rb]? =Y (M cs 112 (0,0))/\cs.size=15)(S:Src W sb a n cap k' zs)(hk:k'<=k+8)(hg:w.grownBy W (Y sb))(hsr:sb<rb):
  ∃cs old,r=R' (U cs)/\cs.size=15/\cs.all (·.oneCell')=A'/\W'.heap[rb]? =Y (M old 112 (0,0))/\old.size=cs.size/\dQ0 H Q' sb rb a n cap k zs w (W'.setRow rb cs)/\∃c,cs[0]? =Y (I J c):=by
 obtain⟨c,wt,id,xa,xn,xc,ya,yn,yc,s',bt,e',T',rfl,hbt,hE,hP,h1,h2,h3,h4⟩:=h;obtain⟨old,hR,ho⟩:=hR;have hR':=(hP.bel.block rb hr).trans hR;refine⟨_,old,rfl,rfl,by simp[oD,Value.oneCell'],hR',by rw[ho];rfl,⟨c,wt,id,xa,xn,xc,ya,yn,yc,s',bt,e',_,k',setRow_heap _ _ _ _ _ _ hR',hbt,((cQ1 hE hP z' h1 h2 h3 h4).grown (oT W' rb _) hr).low hH,hk,dM (S.below hP.bel S.lt) (oT W' rb _) (fun j hj=>by cases hj;exact hsr),eP (iP hg hP.bel) (oT W' rb _) hrb⟩,c,rfl⟩
def dQ2(H Q' sb:Nat)(a:Option Addr)(n cap k:Nat)(zs:List Int)(w:World)(r:Ending)(w':World):Prop:=
 ∃s' bt e' T' k',r=R' (U (s'.cells bt))/\bt=e'.bt/\Hand H Q' w' T' s' e'/\k'<=k+8/\Src w' sb a n cap k' zs/\w.grownBy w' (Y sb)
theorem cA5(H Q' sb:Nat)(a:Option Addr)(n cap k:Nat)(zs:List Int)(T:Nat->Nat)(s:EgS)(e:Eng)(w:World)(hH:Hand H Q' w T s e)(hs:sb<H)(S:Src w sb a n cap k zs)(hb:IsB zs)(hn:n<=1048580)(hk:k<=890)(hM:Q'+1<=1048576):
  Calls prog 70 #[.pointer (Y ⟨sb,0,O⟩),U #[Z s.ba s.bn s.bc,Z s.la s.ln s.lc,Z s.ka s.kn s.kc,Z s.ta s.tn s.tc,Z s.sa s.sn s.sc,Z s.oa s.on s.oc,Z s.xa s.xn s.xc,X e.bt,Z s.ma s.mn s.mc,Z s.aa s.an s.ac]] w (dQ2 H (Q'+1) sb a n cap k zs w):=by
 have hsw:sb<w.heap.size:=S.lt;have hb0:V' w ((w.alloc (M #[Z s.ba s.bn s.bc,Z s.la s.ln s.lc,Z s.ka s.kn s.kc,Z s.ta s.tn s.tc,Z s.sa s.sn s.sc,Z s.oa s.on s.oc,Z s.xa s.xn s.xc,X e.bt,Z s.ma s.mn s.mc,Z s.aa s.an s.ac] 68)).alloc (M #[Z O 0 0,Z O 0 0,Z O 0 0,Z O 0 0,Z O 0 0,Z O 0 0,Z O 0 0,X F',Z O 0 0,Z O 0 0] 68)):=((Aa _ _).alloc z' _).alloc (by simp) _;have hA:((w.alloc (M #[Z s.ba s.bn s.bc,Z s.la s.ln s.lc,Z s.ka s.kn s.kc,Z s.ta s.tn s.tc,Z s.sa s.sn s.sc,Z s.oa s.on s.oc,Z s.xa s.xn s.xc,X e.bt,Z s.ma s.mn s.mc,Z s.aa s.an s.ac] 68)).alloc (M #[Z O 0 0,Z O 0 0,Z O 0 0,Z O 0 0,Z O 0 0,Z O 0 0,Z O 0 0,X F',Z O 0 0,Z O 0 0] 68)).heap[w.heap.size]? =Y (M #[Z s.ba s.bn s.bc,Z s.la s.ln s.lc,Z s.ka s.kn s.kc,Z s.ta s.tn s.tc,Z s.sa s.sn s.sc,Z s.oa s.on s.oc,Z s.xa s.xn s.xc,X e.bt,Z s.ma s.mn s.mc,Z s.aa s.an s.ac] 68 (0,0)):=(cN (by simp)).trans (aP rfl);have hO:((w.alloc (M #[Z s.ba s.bn s.bc,Z s.la s.ln s.lc,Z s.ka s.kn s.kc,Z s.ta s.tn s.tc,Z s.sa s.sn s.sc,Z s.oa s.on s.oc,Z s.xa s.xn s.xc,X e.bt,Z s.ma s.mn s.mc,Z s.aa s.an s.ac] 68)).alloc (M #[Z O 0 0,Z O 0 0,Z O 0 0,Z O 0 0,Z O 0 0,Z O 0 0,Z O 0 0,X F',Z O 0 0,Z O 0 0] 68)).heap[w.heap.size+1]? =Y (M #[Z O 0 0,Z O 0 0,Z O 0 0,Z O 0 0,Z O 0 0,Z O 0 0,Z O 0 0,X F',Z O 0 0,Z O 0 0] 68 (0,0)):=aP (by simp);have HLN:=hid hH.o.sizes;have HTN:=hid hH.tn;have S0:=S.below hb0 hsw;have g0:=cP9 hb0 (Y sb);have hz0:Hid (((w.alloc (M #[Z s.ba s.bn s.bc,Z s.la s.ln s.lc,Z s.ka s.kn s.kc,Z s.ta s.tn s.tc,Z s.sa s.sn s.sc,Z s.oa s.on s.oc,Z s.xa s.xn s.xc,X e.bt,Z s.ma s.mn s.mc,Z s.aa s.an s.ac] 68)).alloc (M #[Z O 0 0,Z O 0 0,Z O 0 0,Z O 0 0,Z O 0 0,Z O 0 0,Z O 0 0,X F',Z O 0 0,Z O 0 0] 68)).heap.size=w.heap.size+2):=by show _=_;simp
 go_enter func70,ntmps70
 go_upto_region 1 with fail
 generalize((w.alloc (M #[Z s.ba s.bn s.bc,Z s.la s.ln s.lc,Z s.ka s.kn s.kc,Z s.ta s.tn s.tc,Z s.sa s.sn s.sc,Z s.oa s.on s.oc,Z s.xa s.xn s.xc,X e.bt,Z s.ma s.mn s.mc,Z s.aa s.an s.ac] 68)).alloc (M #[Z O 0 0,Z O 0 0,Z O 0 0,Z O 0 0,Z O 0 0,Z O 0 0,Z O 0 0,X F',Z O 0 0,Z O 0 0] 68))=W0 at*;have hwl:=hz0.out;obtain⟨eb,HEB⟩:∃eb,Hid (w.heap.size=eb):=⟨_,rfl⟩
 obtain⟨ob,HOB⟩:∃ob,Hid (w.heap.size+1=ob):=⟨_,rfl⟩
 simp only[HOB.out]at hO⊢;simp only[HEB.out]at hA⊢;have heb:eb<W0.heap.size:=by have:=HEB.out;omega
 have hob:ob<W0.heap.size:=by have:=HOB.out;omega
 have hge:w.heap.size<=eb/\w.heap.size<=ob:=by have:=HEB.out;have:=HOB.out;omega
 clear HEB HOB hz0 hb0 hwl;have x3:W0.cell? ⟨eb,3,O⟩=Y (Z s.ta s.tn s.tc):=C' hA;go_upto_region 3 with fail
 have hb1:V' W0 (W0.alloc (M (eA 1) 112)):=(Aa _ _).alloc z' _;have hB1:(W0.alloc (M (eA 1) 112)).heap[W0.heap.size]? =Y (M (eA 1) 112 (0,0)):=aP rfl;have hz1:W0.heap.size<(W0.alloc (M (eA 1) 112)).heap.size:=by simp
 have S1:=S0.below hb1 S0.lt;have g1:=iP g0 hb1;have hA1:=(hb1.block eb heb).trans hA;have hO1:=(hb1.block ob hob).trans hO;simp only[eA]at hb1 hB1 hz1 S1 g1 hA1 hO1;clear hA hO S0 g0 hb1 x3;generalize W0.alloc (M #[I J 1,X F',I J 0,Z O 0 0,Z O 0 0,Z O 0 0,Z O 0 0,Z O 0 0,Z O 0 0,Z O 0 0,Z O 0 0,Z O 0 0,X F',Z O 0 0,Z O 0 0] 112)=W1 at*;obtain⟨rb,HRB⟩:∃rb,Hid (W0.heap.size=rb):=⟨_,rfl⟩
 simp only[HRB.out]at hB1 heb hob hz1⊢;have hgr:w.heap.size<=rb:=by have:=heb;omega
 clear HRB;go_cut [21] (fun sl wx=>∃y k',sl=X y/\(y=F'->1<=s.tn)/\k'<=k+1/\Src wx sb a n cap k' zs/\W1.grownBy wx (Y sb))
 case first=>
  by_cases h0:s.tn=0
  .have e0:((s.tn:Int)==0)=A':=by simpa using h0
   go_wp2_with fail
   go_meet;exact⟨A',k,rfl,(fun h=>by cases h),by omega,S1,⟨rfl,rfl,rfl,z',fun _ _ _=>rfl⟩⟩
  have e0:((s.tn:Int)==0)=F':=by simpa using h0
  by_cases h6:s.tn<6
  .have h6':(s.tn:Int)<6:=by omega
   go_wp2_with fail
   refine(mF 6 sb a n cap k zs _ S1 hb hn (by omega) (by omega) (by omega)).mono ?_;rintro r W2⟨⟨y,rfl⟩,S2,g2⟩;go_wp2_with fail
   go_meet;exact⟨y,k+1,rfl,fun _=>by omega,by omega,S2,g2⟩
  .have h6':¬(s.tn:Int)<6:=by omega
   go_wp2_with fail
   go_meet;exact⟨F',k,rfl,fun _=>by omega,by omega,S1,⟨rfl,rfl,rfl,z',fun _ _ _=>rfl⟩⟩
 case rest=>
  obtain⟨W2,hwn⟩:∃x:World,x=wc:=⟨_,rfl⟩
  subst hwn;obtain⟨y,k2,rfl,hy,hk2,S2,g2⟩:=hcut;have HY:=hid hy;clear hy S1;go_upto_if 21 with fail
  have G2:=cC g1 g2;have hN2:=hH.grown G2 hs;have hsr:sb<rb:=by omega
  have hR2:∃cs,W2.heap[rb]? =Y (M cs 112 (0,0))/\cs.size=15:=⟨_,bS g2 hB1 (by simp;omega),rfl⟩
  have hA2:=bS g2 hA1 (by simp;omega);have hO2:=bS g2 hO1 (by simp;omega);have hz2:=g2.size;clear hA1 hO1 hB1 g1 g2;go_cut [] (fun wx=>dQ0 (rb+1) (Q'+1) sb rb a n cap k zs w wx/\wx.heap[eb]? =Y (M #[Z s.ba s.bn s.bc,Z s.la s.ln s.lc,Z s.ka s.kn s.kc,Z s.ta s.tn s.tc,Z s.sa s.sn s.sc,Z s.oa s.on s.oc,Z s.xa s.xn s.xc,X e.bt,Z s.ma s.mn s.mc,Z s.aa s.an s.ac] 68 (0,0))/\wx.heap[ob]? =Y (M #[Z O 0 0,Z O 0 0,Z O 0 0,Z O 0 0,Z O 0 0,Z O 0 0,Z O 0 0,X F',Z O 0 0,Z O 0 0] 68 (0,0))/\W2.heap.size<=wx.heap.size)
  case first=>
   cases y;rotate_left
   .go_wp2_with fail
    refine R0 (fun W'=>W'.heap[eb]? =Y (M #[Z s.ba s.bn s.bc,Z s.la s.ln s.lc,Z s.ka s.kn s.kc,Z s.ta s.tn s.tc,Z s.sa s.sn s.sc,Z s.oa s.on s.oc,Z s.xa s.xn s.xc,X e.bt,Z s.ma s.mn s.mc,Z s.aa s.an s.ac] 68 (0,0))) hA2 (fun hH'=>?_);have S3:Src W2.drew sb a n cap k2 zs:=⟨S2.box,S2.far,S2.bytes⟩
    have G3:w.grownBy W2.drew (Y sb):=⟨G2.os,G2.tape,G2.output,G2.size,G2.block⟩
    have hR3:∃cs,W2.drew.heap[rb]? =Y (M cs 112 (0,0))/\cs.size=15:=hR2;have hO3:W2.drew.heap[ob]? =_:=hO2;have hz3:W2.heap.size<=W2.drew.heap.size:=z';clear S2 G2 hR2 hO2 hA2 hN2;generalize W2.drew=V at*;refine R8 0 (hy:=fun W hW=>cQ9 hW underlying68) (h:=R8 1 (h:=J3 ?_));refine J1 2 (fun K hK=>?_);go_simp;refine(mF 4 sb a n cap k2 zs _ S3 hb hn (by omega) (by omega) (by omega)).mono ?_;rintro r W3⟨⟨sy,rfl⟩,S4,g4⟩;have G4:=cC G3 g4;have hN4:=hH.grown G4 hs;have hA4:=bS g4 hH' (by simp;omega);have hO4:=bS g4 hO3 (by simp;omega);obtain⟨oc,hR4,hoc⟩:=hR3;have hR4:∃cs,W3.heap[rb]? =Y (M cs 112 (0,0))/\cs.size=15:=⟨oc,bS g4 hR4 (by simp;omega),hoc⟩
    have hz4:=g4.size;refine hK.out _ _ hA4 (fun _=>?_);clear hK K hH' S3 G3 hO3 g4;refine J3 (J1 3 (fun K hK=>?_));go_simp;refine(uR sy s e W3 hN4.o.read).mono ?_;rintro r W4 hQ;have hB4:=hQ.bel;obtain⟨cs,old,rfl,hc15,hc1,hRb,hold,hMid,c,hc0⟩:=(hQ.more (M':=Q'+1) (by have:=hH.mn;have:=HLN.out;omega)).put (H:=rb+1) (k:=k) (by omega) (by omega) hgr hR4 S4 (by omega) G4 hsr;refine hK.out _ _ (hB4.block eb (by omega)▸hA4) (fun _=>?_);clear hK K;refine J3 (J1 4 (fun K hK=>?_));refine dI4 cs hRb ?_ hc1 (hi:=by rw[hc15];kernel_rfl) (hs:=hold);have hA5:=(Ew W4 rb eb cs (by omega)).trans ((hB4.block eb (by omega)).trans hA4);have hO5:=(Ew W4 rb ob cs (by omega)).trans ((hB4.block ob (by omega)).trans hO4);have hz5:=hB4.size;refine hK.out _ _ hA5 (fun _=>?_);clear hK K;refine R7 ?_;go_wp2_with fail
    go_meet;exact⟨hMid,hA5,hO5,by simp;omega⟩
   .have hn1:=HY.out rfl;have hn2:=HTN.out;go_wp2_with fail
    refine(eD (s.tn:Int) sb a n cap k2 zs _ S2 hb hn (by omega) (by omega) (by omega)).mono ?_;rintro r W3⟨⟨v,hv0,hv1,rfl⟩,S3,g3⟩;obtain⟨i,rfl⟩:∃i:Nat,v=(i:Int):=⟨v.toNat,by omega⟩
    have his:i<s.tn:=by omega
    have hw1:IntKind.i64.wrap (1+(i:Int))=(i:Int)+1:=by rw[Br _ ⟨by omega,by omega⟩];omega
    have hw2:IntKind.i64.wrap (i:Int)=(i:Int):=Br _ ⟨by omega,by omega⟩;have G3:=cC G2 g3;have hA3:=bS g3 hA2 (by simp;omega);have hO3:=bS g3 hO2 (by simp;omega);obtain⟨oc,hR3',hoc⟩:=hR2;have hR3:∃cs,W3.heap[rb]? =Y (M cs 112 (0,0))/\cs.size=15:=⟨oc,bS g3 hR3' (by simp;omega),hoc⟩
    have hz3:=g3.size;clear S2 G2 hR3' hO2 hA2 hN2 g3 hoc;go_upto_region 6 with fail
    obtain⟨g,off,au,nu,cu,hta,_⟩:=(hH.grown G3 hs).o.read.tx.txn his;have HT1:=fun W (hW:w.grownBy W (Y sb))=>(hH.grown hW hs).o.read.tx.txn his;have hT2:∃sy,∀W,w.grownBy W (Y sb)->W.cell? ⟨g,off+i*8+1,O⟩=Y (X sy):=⟨(aS e.tx i).sy,fun W hW=>by obtain⟨g',off',_,_,_,hta',_,t1,_⟩:=HT1 W hW;rw[hta]at hta';simp only[Af,Ap,Cn]at hta';obtain⟨rfl,rfl⟩:=hta';exact t1⟩
    obtain⟨sy,hT2⟩:=hT2;have HTA:=hid hta;clear HT1 hta;refine R0 (fun W'=>W'.heap[eb]? =Y (M #[Z s.ba s.bn s.bc,Z s.la s.ln s.lc,Z s.ka s.kn s.kc,Z s.ta s.tn s.tc,Z s.sa s.sn s.sc,Z s.oa s.on s.oc,Z s.xa s.xn s.xc,X e.bt,Z s.ma s.mn s.mc,Z s.aa s.an s.ac] 68 (0,0))/\w.grownBy W' (Y sb)) ⟨hA3,⟨G3.os,G3.tape,G3.output,G3.size,G3.block⟩⟩ (fun hH'=>?_);have S4:Src W3.drew sb a n cap (k2+1) zs:=⟨S3.box,S3.far,S3.bytes⟩
    have hR4:∃cs,W3.drew.heap[rb]? =Y (M cs 112 (0,0))/\cs.size=15:=hR3;have hO4:W3.drew.heap[ob]? =_:=hO3;replace hz3:W2.heap.size<=W3.drew.heap.size:=hz3;clear S3 hR3 hO3 hA3 G3;generalize W3.drew=V at*;refine R8 0 (hy:=fun W hW=>cQ9 hW.1 underlying68) (h:=R8 1 (h:=R8 2 (h:=R8 3 (h:=R8 4 (hy:=fun W hW=>by have x3:W.cell? ⟨eb,3,O⟩=Y (Z (Y ⟨g,off,O⟩) s.tn s.tc):=(by rw[Ai W eb 3 _ _ _ hW.1,<-HTA.out];rfl);go_simp<;>with_reducible rfl) (h:=R8 5 (h:=R8 6 (h:=R8 7 (h:=R8 8 (h:=R8 9 (hy:=fun W hW=>by have x:=hT2 W hW.2;go_simp<;>with_reducible rfl) (h:=J3 ?_))))))))));refine J1 10 (fun K hK=>?_);go_simp;refine(aY1 sy sb a n cap (k2+1) zs _ S4 hb hn (by omega)).mono ?_;rintro r W5⟨o,p,q,v,k5,rfl,hk5,S5,g5⟩;have G5:=cC hH'.2 g5;have hN5:=hH.grown G5 hs;have hA5:=bS g5 hH'.1 (by simp;omega);have hO5:=bS g5 hO4 (by simp;omega);obtain⟨oc,hR4',hoc⟩:=hR4;have hR5:∃cs,W5.heap[rb]? =Y (M cs 112 (0,0))/\cs.size=15:=⟨oc,bS g5 hR4' (by simp;omega),hoc⟩
    have hz5:=g5.size;refine hK.out _ _ ⟨hA5,G5⟩ (fun _=>?_);clear hK K hH' S4 hO4 hR4' g5 hoc;refine J3 (J1 11 (fun K hK=>?_));go_simp;refine(cA3 o p q v ((i:Int)+1) s e W5 hN5.o.read (by have:=hH.mn;have:=HLN.out;omega)).mono ?_;rintro r W6 hQ;have hB6:=hQ.bel;obtain⟨cs,old,rfl,hc15,hc1,hRb,hold,hMid,c,hc0⟩:=(hQ.more (M':=Q'+1) (by have:=hH.mn;have:=HLN.out;omega)).put (H:=rb+1) (k:=k) (by omega) (by omega) hgr hR5 S5 (by omega) G5 hsr;refine hK.out _ _ ⟨(hB6.block eb (by omega)).trans hA5,iP G5 hB6⟩ (fun _=>?_);clear hK K;refine J3 (J1 12 (fun K hK=>?_));refine dI4 cs hRb ?_ hc1 (hi:=by rw[hc15];kernel_rfl) (hs:=hold);have hA7:=(Ew W6 rb eb cs (by omega)).trans ((hB6.block eb (by omega)).trans hA5);have hO7:=(Ew W6 rb ob cs (by omega)).trans ((hB6.block ob (by omega)).trans hO5);have hR7:=setRow_heap W6 rb _ cs _ _ hRb;have hz7:W5.heap.size<=(W6.setRow rb cs).heap.size:=by have:=hB6.size;simp;omega
    have G7:=eP (iP G5 hB6) (oT W6 rb cs) hgr;have S7:=dM (S5.below hB6 S5.lt) (oT W6 rb cs) (fun j hj=>by cases hj;exact hsr);refine hK.out _ _ ⟨hA7,G7⟩ (fun _=>?_);clear hK K hRb hold hB6 hQ;refine R7 ?_;generalize W6.setRow rb cs=W7 at*;have y0:W7.cell? ⟨rb,0,O⟩=Y (I J c):=(C' hR7).trans hc0;have hrl:=aD y0;by_cases h10:c=10;rotate_left
    .have hcb:(c==10)=F':=by simpa using h10
     clear S7 G7;go_wp2_with fail
     go_meet;exact⟨hMid,hA7,hO7,by omega⟩
    have hcb:(c==10)=A':=by simpa using h10
    clear hMid;go_upto_region 8 with fail
    have hN7:=hH.grown G7 hs;obtain⟨⟨x0,x1,x2,x3,x4,x5,x6,x7,x8,x9⟩,_⟩:=eK hA7;have hel:=aD x0;go_wp2_with fail
    clear x0 x1 x2 x3 x4 x5 x6 x7 x8 x9;refine(bC2 ((i:Int)+1) s e W7 hN7.o.read (by have:=hH.mn;have:=HLN.out;omega)).mono ?_;rintro r W8 hQ;have hB8:=hQ.bel;obtain⟨cs8,old,rfl,hc15',hc1',hRb,hold,hMid,_⟩:=(hQ.more (M':=Q'+1) (by have:=hH.mn;have:=HLN.out;omega)).put (H:=rb+1) (k:=k) (by omega) hrl hgr ⟨cs,hR7,hc15⟩ S7 (by omega) G7 hsr;have hA9:=(Ew W8 rb eb cs8 (by omega)).trans ((hB8.block eb (by omega)).trans hA7);have hO9:=(Ew W8 rb ob cs8 (by omega)).trans ((hB8.block ob (by omega)).trans hO7);have hz9:=hB8.size;go_wp2_with(refine Fu rfl 112 (.tmp 6) (.tmp 47) rfl rb cs8 rfl rfl _ _ hRb (by rw[hc15'];kernel_rfl) hold hc1' ?_)
    go_meet;exact⟨hMid,hA9,hO9,by simp;omega⟩
  case rest=>
   obtain⟨W9,hwn⟩:∃x:World,x=wc:=⟨_,rfl⟩
   subst hwn;obtain⟨⟨c,wt,id,xa,xn,xc,ya,yn,yc,s9,bt9,e9,T9,k9,hR9,hbt9,hN9,hk9,S9,G9⟩,hA9,hO9,hz9⟩:=hcut;clear S2 G2 hN2 hR2 hA2 hO2;have HB9:=hid hbt9;clear hbt9;have y0:W9.cell? ⟨rb,0,O⟩=Y (I J c):=C' hR9;have hrl:=aD y0;go_upto_region 9 with fail
   go_cut [55] (fun sl wx=>(∃y,sl=X y)/\wx=W9)
   case first=>
    by_cases hc0:c=0
    .have hcb:(c !=0)=F':=by simpa using hc0
     go_wp2_with fail
     go_meet;exact⟨⟨_,rfl⟩,rfl⟩
    .have hcb:(c !=0)=A':=by simpa using hc0
     go_wp2_with fail
     go_meet;exact⟨⟨_,rfl⟩,rfl⟩
   case rest=>
    obtain⟨⟨y,rfl⟩,hwc⟩:=hcut;obtain rfl:=hwc.symm;cases y
    .obtain⟨⟨r0,r1,r2,r3,r4,r5,r6,r7,r8,r9⟩,f0,f1,f2,f3,f4,f5,f6,f7,f8,f9⟩:=eK hO9;obtain⟨z0,z1,z2,z3,z4,z5,z6,z7,z8,z9,z10,z11,z12,z13,z14,_⟩:=iC hR9;have hput:=aO4 (Z s9.ba s9.bn s9.bc) (Z s9.la s9.ln s9.lc) (Z s9.ka s9.kn s9.kc) (Z s9.ta s9.tn s9.tc) (Z s9.sa s9.sn s9.sc) (Z s9.oa s9.on s9.oc) (Z s9.xa s9.xn s9.xc) (X bt9) (Z s9.ma s9.mn s9.mc) (Z s9.aa s9.an s9.ac) hO9;have hol:=aD r0;go_wp2;refine Ae (v:=U (s9.cells bt9)) (As Tryz.results70 _ _ ob 68 (s9.cells bt9) (0,0) _ rfl hput.1 underlying68 rfl (by kernel_rfl)) rfl ⟨s9,bt9,e9,_,k9,rfl,HB9.out,(hN9.grown hput.2 (by omega)).low (by have:=hH.le;omega),hk9,dM S9 hput.2 (fun j hj=>by cases hj;omega),eP G9 hput.2 hge.2⟩
    .obtain⟨⟨r0,r1,r2,r3,r4,r5,r6,r7,r8,r9⟩,f0,f1,f2,f3,f4,f5,f6,f7,f8,f9⟩:=eK hO9;obtain⟨⟨x0,x1,x2,x3,x4,x5,x6,x7,x8,x9⟩,_⟩:=eK hA9;have hput:=aO4 (Z s.ba s.bn s.bc) (Z s.la s.ln s.lc) (Z s.ka s.kn s.kc) (Z s.ta s.tn s.tc) (Z s.sa s.sn s.sc) (Z s.oa s.on s.oc) (Z s.xa s.xn s.xc) (X e.bt) (Z s.ma s.mn s.mc) (Z s.aa s.an s.ac) hO9;have hol:=aD r0;have hel:=aD x0;go_wp2;have GF:=eP G9 hput.2 hge.2;refine Ae (v:=U (s.cells e.bt)) (As Tryz.results70 _ _ ob 68 (s.cells e.bt) (0,0) _ rfl hput.1 underlying68 rfl (by kernel_rfl)) rfl ⟨s,e.bt,e,_,k9,rfl,rfl,(hH.grown GF hs).more (Nat.le_succ _),hk9,dM S9 hput.2 (fun j hj=>by cases hj;omega),GF⟩
end Go.Proofs.YtpbbokalojdooaaGreat
