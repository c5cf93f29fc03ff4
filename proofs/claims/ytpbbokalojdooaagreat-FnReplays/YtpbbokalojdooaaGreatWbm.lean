import Derived.Test.YtpbbokalojdooaaGreatWbk
import Derived.Test.YtpbbokalojdooaaGreatWbl
namespace Go.Proofs.YtpbbokalojdooaaGreat
open Go.RowKit Ch Go.Proofs.Tryz
set_option linter.unusedSimpArgs false
set_option linter.unusedVariables false
set_option maxRecDepth 20000
set_option maxHeartbeats 8000000
open Value renaming int->I,slice->Z,bool->X,agg->U
open IntKind renaming i64->J
open Option renaming none->O,some->Y
open Obj renaming cells->M
open Ending renaming returned->R'
open Bool renaming true->A',false->F'
theorem uR(sy:Bool)(s:EgS)(e:Eng)(w:World)(h:EgR w s e):
  Calls prog 69 #[U #[Z s.ba s.bn s.bc,Z s.la s.ln s.lc,Z s.ka s.kn s.kc,Z s.ta s.tn s.tc,Z s.sa s.sn s.sc,Z s.oa s.on s.oc,Z s.xa s.xn s.xc,X e.bt,Z s.ma s.mn s.mc,Z s.aa s.an s.ac],X sy] w (EngQ (e.cm.length+1) w):=by
 have kW:V' w ((w.alloc (M #[Z s.ba s.bn s.bc,Z s.la s.ln s.lc,Z s.ka s.kn s.kc,Z s.ta s.tn s.tc,Z s.sa s.sn s.sc,Z s.oa s.on s.oc,Z s.xa s.xn s.xc,X e.bt,Z s.ma s.mn s.mc,Z s.aa s.an s.ac] 68)).alloc (M #[I J 0,X F',I J 0,Z O 0 0,Z O 0 0,Z O 0 0,Z O 0 0,Z O 0 0,Z O 0 0,Z O 0 0,Z O 0 0,Z O 0 0,X F',Z O 0 0,Z O 0 0] 112)):=((Aa _ _).alloc z' _).alloc (by simp) _;have hE:((w.alloc (M #[Z s.ba s.bn s.bc,Z s.la s.ln s.lc,Z s.ka s.kn s.kc,Z s.ta s.tn s.tc,Z s.sa s.sn s.sc,Z s.oa s.on s.oc,Z s.xa s.xn s.xc,X e.bt,Z s.ma s.mn s.mc,Z s.aa s.an s.ac] 68)).alloc (M #[I J 0,X F',I J 0,Z O 0 0,Z O 0 0,Z O 0 0,Z O 0 0,Z O 0 0,Z O 0 0,Z O 0 0,Z O 0 0,Z O 0 0,X F',Z O 0 0,Z O 0 0] 112)).heap[w.heap.size]? =Y (M (s.cells e.bt) 68 (0,0)):=(cN (by simp)).trans (aP rfl);have hRs:((w.alloc (M #[Z s.ba s.bn s.bc,Z s.la s.ln s.lc,Z s.ka s.kn s.kc,Z s.ta s.tn s.tc,Z s.sa s.sn s.sc,Z s.oa s.on s.oc,Z s.xa s.xn s.xc,X e.bt,Z s.ma s.mn s.mc,Z s.aa s.an s.ac] 68)).alloc (M #[I J 0,X F',I J 0,Z O 0 0,Z O 0 0,Z O 0 0,Z O 0 0,Z O 0 0,Z O 0 0,Z O 0 0,Z O 0 0,Z O 0 0,X F',Z O 0 0,Z O 0 0] 112)).heap[w.heap.size+1]? =Y (M (eA 0) 112 (0,0)):=aP (by simp);have hz0:Hid (((w.alloc (M #[Z s.ba s.bn s.bc,Z s.la s.ln s.lc,Z s.ka s.kn s.kc,Z s.ta s.tn s.tc,Z s.sa s.sn s.sc,Z s.oa s.on s.oc,Z s.xa s.xn s.xc,X e.bt,Z s.ma s.mn s.mc,Z s.aa s.an s.ac] 68)).alloc (M #[I J 0,X F',I J 0,Z O 0 0,Z O 0 0,Z O 0 0,Z O 0 0,Z O 0 0,Z O 0 0,Z O 0 0,Z O 0 0,Z O 0 0,X F',Z O 0 0,Z O 0 0] 112)).heap.size=w.heap.size+1+1):=by show _=_;simp
 go_enter func69,ntmps69
 go_upto_region 1 with fail
 generalize(w.alloc (M #[Z s.ba s.bn s.bc,Z s.la s.ln s.lc,Z s.ka s.kn s.kc,Z s.ta s.tn s.tc,Z s.sa s.sn s.sc,Z s.oa s.on s.oc,Z s.xa s.xn s.xc,X e.bt,Z s.ma s.mn s.mc,Z s.aa s.an s.ac] 68)).alloc (M #[I J 0,X F',I J 0,Z O 0 0,Z O 0 0,Z O 0 0,Z O 0 0,Z O 0 0,Z O 0 0,Z O 0 0,Z O 0 0,Z O 0 0,X F',Z O 0 0,Z O 0 0] 112)=W0 at*;obtain⟨rb,HRB⟩:∃rb,Hid (w.heap.size+1=rb):=⟨_,rfl⟩
 obtain⟨eb,HEB⟩:∃eb,Hid (w.heap.size=eb):=⟨_,rfl⟩
 simp only[HRB.out]at hRs⊢;simp only[HEB.out]at hE⊢;have hrb:w.heap.size<=rb/\rb<W0.heap.size:=by have:=hz0.out;have:=HRB.out;omega
 clear HRB hz0 HEB;have hP:EgP W0 eb s e:=⟨hE,h.below kW⟩
 have hbl:=hP.lt;go_wp2_with fail
 refine(aD2 eb s e _ hP).mono ?_;rintro r W1⟨⟨ac,rfl,hac⟩,hb1⟩;have HAC:=hid hac;clear hac;by_cases hc0:ac=0;rotate_left
 .have hcb:(ac !=0)=A':=by simpa using hc0
  go_wp2_with fail
  refine(fH ac _).mono ?_;rintro r W6⟨rfl,hb6⟩;have hB6:=hb1.trans (hb6.mono hb1.size);have hR6:W6.heap[rb]? =Y (M (eA 0) 112 (0,0)):=(hB6.block rb hrb.2).trans hRs;obtain⟨z0,z1,z2,z3,z4,z5,z6,z7,z8,z9,z10,z11,z12,z13,z14,zf⟩:=iC hR6;have zfz:=fun i=>zf i;have hput:=lW (I J ac) (X F') (I J 0) (Z O 0 0) (Z O 0 0) (Z O 0 0) (Z O 0 0) (Z O 0 0) (Z O 0 0) (Z O 0 0) (Z O 0 0) (Z O 0 0) (X F') (Z O 0 0) (Z O 0 0) hR6;have hrl:=aD z0;simp only[eA];clear zf hR6;go_wp2;refine Ae (v:=U (eA (ac))) (As Tryz.results69 _ _ rb 112 (eA (ac)) (0,0) _ rfl hput.1 underlying112 rfl (by kernel_rfl)) rfl (EngQ.bad _ _ ?_);exact cK (kW.trans (hB6.mono kW.size)) hput.2 (fun k hk=>by cases hk;exact hrb.1) (by have:=kW.size;have:=hB6.size;omega)
 have hcb:(ac !=0)=F':=by simpa using hc0
 have hG:=HAC.out hc0;clear HAC;have hP1:=hP.below hb1;have HTN:=hP1.2.tx.len;have htn:=hG.tn;have x3:=hP1.all.2.2.2.1;have hbl1:=hP1.lt;by_cases h20:20<=s.tn
 .have h20':(20:Int)<=(s.tn:Int):=by omega
  go_wp2_with fail
  refine(fH 2 _).mono ?_;rintro r W6⟨rfl,hb6⟩;have hB6:=hb1.trans (hb6.mono hb1.size);have hR6:W6.heap[rb]? =Y (M (eA 0) 112 (0,0)):=(hB6.block rb hrb.2).trans hRs;obtain⟨z0,z1,z2,z3,z4,z5,z6,z7,z8,z9,z10,z11,z12,z13,z14,zf⟩:=iC hR6;have zfz:=fun i=>zf i;have hput:=lW (I J 2) (X F') (I J 0) (Z O 0 0) (Z O 0 0) (Z O 0 0) (Z O 0 0) (Z O 0 0) (Z O 0 0) (Z O 0 0) (Z O 0 0) (Z O 0 0) (X F') (Z O 0 0) (Z O 0 0) hR6;have hrl:=aD z0;simp only[eA];clear zf hR6;go_wp2;refine Ae (v:=U (eA (2))) (As Tryz.results69 _ _ rb 112 (eA (2)) (0,0) _ rfl hput.1 underlying112 rfl (by kernel_rfl)) rfl (EngQ.bad _ _ ?_);exact cK (kW.trans (hB6.mono kW.size)) hput.2 (fun k hk=>by cases hk;exact hrb.1) (by have:=kW.size;have:=hB6.size;omega)
 have h20':¬(20:Int)<=(s.tn:Int):=by omega
 obtain⟨rm,HRM⟩:∃rm,Hid (vK e=rm):=⟨_,rfl⟩
 go_wp2_with fail
 refine(yB eb s e _ hP1).mono ?_;rintro r W2⟨rfl,hb2⟩;simp only[HRM.out];have hB2:=hb1.trans (hb2.mono hb1.size);clear x3 HRM;by_cases hrm:rm<10
 .skip
  go_wp2_with fail
  refine(fH 2 _).mono ?_;rintro r W6⟨rfl,hb6⟩;have hB6:=hB2.trans (hb6.mono hB2.size);have hR6:W6.heap[rb]? =Y (M (eA 0) 112 (0,0)):=(hB6.block rb hrb.2).trans hRs;obtain⟨z0,z1,z2,z3,z4,z5,z6,z7,z8,z9,z10,z11,z12,z13,z14,zf⟩:=iC hR6;have zfz:=fun i=>zf i;have hput:=lW (I J 2) (X F') (I J 0) (Z O 0 0) (Z O 0 0) (Z O 0 0) (Z O 0 0) (Z O 0 0) (Z O 0 0) (Z O 0 0) (Z O 0 0) (Z O 0 0) (X F') (Z O 0 0) (Z O 0 0) hR6;have hrl:=aD z0;simp only[eA];clear zf hR6;go_wp2;refine Ae (v:=U (eA (2))) (As Tryz.results69 _ _ rb 112 (eA (2)) (0,0) _ rfl hput.1 underlying112 rfl (by kernel_rfl)) rfl (EngQ.bad _ _ ?_);exact cK (kW.trans (hB6.mono kW.size)) hput.2 (fun k hk=>by cases hk;exact hrb.1) (by have:=kW.size;have:=hB6.size;omega)
 have kB2:=kW.trans (hB2.mono kW.size);have hP2:=hP.below hB2;obtain⟨x0,x1,x2,x3,x4,x5,x6,x7,x8,x9⟩:=hP2.all;have hbl2:=hP2.lt;go_wp2_with fail
 refine(xY s e _ hP2.2 hG.lv).mono ?_;rintro r W5⟨⟨s1,T5,rfl,hC,hT8⟩,hb5⟩;simp only[EgS.cells];have hb6:V' W5 (W5.alloc (M #[Z s1.ba s1.bn s1.bc,Z s1.la s1.ln s1.lc,Z s1.ka s1.kn s1.kc,Z s1.ta s1.tn s1.tc,Z s1.sa s1.sn s1.sc,Z s1.oa s1.on s1.oc,Z s1.xa s1.xn s1.xc,X e.bt,Z s1.ma s1.mn s1.mc,Z s1.aa s1.an s1.ac] 68)):=(Aa _ _).alloc z' _;have hX6:EgX (W5.alloc (M #[Z s1.ba s1.bn s1.bc,Z s1.la s1.ln s1.lc,Z s1.ka s1.kn s1.kc,Z s1.ta s1.tn s1.tc,Z s1.sa s1.sn s1.sc,Z s1.oa s1.on s1.oc,Z s1.xa s1.xn s1.xc,X e.bt,Z s1.ma s1.mn s1.mc,Z s1.aa s1.an s1.ac] 68)) (mrk T5 W5.heap.size 1) W5.heap.size 0 (s1.cells e.bt) 68 s1 e:=
  ⟨hC.kept (fun k _ _=>aY hb6 T5 1 k),aP rfl,fun j hj=>by rw[Al],by unfold mrk;rw[if_neg (by omega)]⟩
 have hP6:Past W2 (mrk T5 W5.heap.size 1) (W5.alloc (M #[Z s1.ba s1.bn s1.bc,Z s1.la s1.ln s1.lc,Z s1.ka s1.kn s1.kc,Z s1.ta s1.tn s1.tc,Z s1.sa s1.sn s1.sc,Z s1.oa s1.on s1.oc,Z s1.xa s1.xn s1.xc,X e.bt,Z s1.ma s1.mn s1.mc,Z s1.aa s1.an s1.ac] 68)):=⟨hb5.trans (hb6.mono hb5.size),fun x hx=>by rw[dR (by have:=hb5.size;omega)];exact hT8 x hx⟩
 have HS1:=hid hC.sizes;go_upto_region 7 with fail
 clear x0 x1 x2 x4 x5 x6 x7 x8 x9 hT8 hC hb6;have x3:=keep_cell hP6.bel x3;generalize W5.alloc (M #[Z s1.ba s1.bn s1.bc,Z s1.la s1.ln s1.lc,Z s1.ka s1.kn s1.kc,Z s1.ta s1.tn s1.tc,Z s1.sa s1.sn s1.sc,Z s1.oa s1.on s1.oc,Z s1.xa s1.xn s1.xc,X e.bt,Z s1.ma s1.mn s1.mc,Z s1.aa s1.an s1.ac] 68)=W6 at*;generalize mrk T5 W5.heap.size 1=T6 at*;generalize W5.heap.size=xb at*;have hwr:IntKind.i64.wrap ((s.tn:Int)+1)=(s.tn:Int)+1:=Br _ ⟨by omega,by omega⟩;have hebl:=aD x3;go_upto_region 8 with fail
 have y3:=hX6.all.2.2.2.1;simp only[Al]at y3;have hxl:=hX6.lt;have hst:s1.tn<=19:=by have:=HS1.out.1;have:=HTN.out;omega
 have hbA:V' W6 (W6.alloc (M #[I J ((s.tn:Int)+1),X sy,I J 1,Z O 0 0,I J 0,I J 0,I J 0,I J 0] 155)):=(Aa _ _).alloc z' _;have hX7:=hX6.below hbA 8;have hP7:=hP6.below hbA 8;have hN:=cR4 W6 ⟨(s.tn:Int)+1,sy,1,[],0,0,0,0⟩ (Z O 0 0);simp only at hN;obtain⟨us,hTx⟩:=hX7.own.tx;obtain⟨ys,hrw,hcs⟩:=hTx.row;have HCS:=hid hcs;clear hcs x3;go_upto_region 9 with
  (at_builtin
   refine aE3 dN4 (.tmp 29) (.tmp 33) ?_ ?_ 0 (Z s1.ta s1.tn s1.tc) s1.tn ys (Y ⟨W6.heap.size,0,O⟩) 1 1 (txc ⟨(s.tn:Int)+1,sy,1,[],0,0,0,0⟩ (Z O 0 0)) ?_ ?_ hrw.1 hN (cS6 _ _ _ _) (by omega) (Ad _) ?_;exact rfl;exact rfl;exact rfl;exact rfl;intro a9 c9 W9 o9 gr9 at9;have hI9:=hX7.addTx (r:=⟨(s.tn:Int)+1,sy,1,[],0,0,0,0⟩) (x:=Z O 0 0) hTx hrw HCS.out (qK _ _ _ _ _) (by simp) (by omega) o9 gr9 at9;have hb9:=(bJ hX7.box hX7.tag (dF gr9 (fun g hg=>hrw.2 g hg) (by decide:1≠2))).1;have z9:W9.cell? ⟨xb,3,O⟩=Y (Z s1.ta s1.tn s1.tc):=(Ai W9 xb 3 _ _ _ hb9).trans (by have:=hX7.cell 3 (by decide);rw[Al]at this;exact this);have f9:=An W9 xb 3 _ _ hb9;have hxl9:xb<W9.heap.size:=aD z9;clear hb9 hTx hrw HCS hN o9 gr9 at9 y3)
 simp only[Al]at hI9;have hX8:=hI9.1;have hP8:=hP7.stp hI9.2;clear hI9 hX7 hP7 hX6 hP6 z9 f9;generalize W9.setCell ⟨xb,3,O⟩ (Z a9 (s1.tn+1) c9)=W8 at*;have hxl8:=hX8.lt;have hfe:Rec.Fit ⟨1,(s.tn:Int)+1,0,F',0,F',0⟩:=⟨by show(1:Int)<=1/\(1:Int)<=5;omega,by show(1:Int)<=(s.tn:Int)+1/\(s.tn:Int)+1<=999;omega,by show(0:Int)<=0/\(0:Int)<=99;omega,by show(0:Int)<=0/\(0:Int)<=9999;omega,by show(0:Int)<=0/\(0:Int)<=9999;omega,fun _=>⟨rfl,rfl,rfl,rfl,rfl⟩⟩
 have hon:s1.on<=4000:=by have:=HS1.out;have:=hG.ripe.wal;omega
 go_wp2_with fail
 refine(pQ 1 ((s.tn:Int)+1) 0 F' 0 F' 0 _ _ xb 0 _ _ _ _ hX8 hfe (by show s1.on+11<=_;omega)).mono ?_;rintro r W10⟨rfl,T10,cs10,a10,n10,k10,lo10,hX10,hn10,hS10⟩;have hP10:=hP8.stp hS10;have HZ10:Hid (({({s1 with ta:=a9,tn:=s1.tn+1,tc:=c9}:EgS)with oa:=a10,on:=n10,oc:=k10}:EgS).mn<=e.cm.length+1/\({({s1 with ta:=a9,tn:=s1.tn+1,tc:=c9}:EgS)with oa:=a10,on:=n10,oc:=k10}:EgS).tn<=21/\({({s1 with ta:=a9,tn:=s1.tn+1,tc:=c9}:EgS)with oa:=a10,on:=n10,oc:=k10}:EgS).an<=250/\({({s1 with ta:=a9,tn:=s1.tn+1,tc:=c9}:EgS)with oa:=a10,on:=n10,oc:=k10}:EgS).sn+({({s1 with ta:=a9,tn:=s1.tn+1,tc:=c9}:EgS)with oa:=a10,on:=n10,oc:=k10}:EgS).on<=100000):=by
  have h1:=HS1.out;have h2:=hG.ripe.wal;have h3:=hG.an;have h4:n10<=s1.on+11:=hn10;refine⟨?_,?_,?_,?_⟩
  .show s1.mn<=_;omega
  .show s1.tn+1<=_;omega
  .show s1.an<=_;omega
  .show s1.sn+n10<=_;omega
 clear hX8 hP8 hS10 hn10 hon hfe;generalize({({s1 with ta:=a9,tn:=s1.tn+1,tc:=c9}:EgS)with oa:=a10,on:=n10,oc:=k10}:EgS)=s9 at*;generalize({({e with tx:=e.tx++[⟨(s.tn:Int)+1,sy,1,[],0,0,0,0⟩]}:Eng)with lo:=lo10}:Eng)=e9 at*;obtain⟨x0,x1,x2,x3,x4,x5,x6,x7,x8,x9⟩:=hX10.all;simp only[Al]at x0 x1 x2 x3 x4 x5 x6 x7 x8 x9;have hxl:=hX10.lt;have hBB:=hB2.trans (hP10.bel.mono hB2.size);have kB:=kW.trans (hBB.mono kW.size);have hR7:W10.heap[rb]? =Y (M (eA 0) 112 (0,0)):=(hBB.block rb hrb.2).trans hRs;have hrb4:rb<W2.heap.size:=by have:=hB2.size;omega
 obtain⟨z0,z1,z2,z3,z4,z5,z6,z7,z8,z9,z10,z11,z12,z13,z14,zf⟩:=iC hR7;have zfz:=fun i=>zf i;have hput:=lW (I J 0) (X F') (I J ((s.tn:Int)+1)) (Z O 0 0) (Z O 0 0) (Z s9.ba s9.bn s9.bc) (Z s9.la s9.ln s9.lc) (Z s9.ka s9.kn s9.kc) (Z s9.ta s9.tn s9.tc) (Z s9.sa s9.sn s9.sc) (Z s9.oa s9.on s9.oc) (Z s9.xa s9.xn s9.xc) (X e9.bt) (Z s9.ma s9.mn s9.mc) (Z s9.aa s9.an s9.ac) hR7;have hrl:=aD z0;have hT8:T10 rb=8:=hP10.old rb hrb4;clear zf hR7;go_wp2;refine Ae (v:=U (oD 0 F' ((s.tn:Int)+1) (Z O 0 0) (Z O 0 0) s9 e9.bt)) (As Tryz.results69 _ _ rb 112 (oD 0 F' ((s.tn:Int)+1) (Z O 0 0) (Z O 0 0) s9 e9.bt) (0,0) _ rfl hput.1 underlying112 rfl (by kernel_rfl)) rfl ⟨0,F',(s.tn:Int)+1,O,0,0,O,0,0,s9,e9.bt,e9,T10,rfl,rfl,hX10.own.kept (T':=T10) (fun k _ h8=>gC hput.2 hT8 h8),⟨cK kB hput.2 (fun k hk=>by cases hk;exact hrb.1) (by have:=kB.size;omega),fun x hx=>hP10.old x (by have:=kB2.size;omega)⟩,HZ10.out.1,HZ10.out.2.1,HZ10.out.2.2.1,HZ10.out.2.2.2⟩
theorem aT8(s:Nat)(a:Option Addr)(n cap k:Nat)(zs:List Int)(w:World)(h:Src w s a n cap k zs)(hb:IsB zs)(hn:n<=1048580)(hk:k<=800):
  Calls prog 84 #[.pointer (Y ⟨s,0,O⟩)] w (OpD 8 s a n cap k zs w):=by
 have hsl:=h.lt;have S:=h.new (o:=M #[I J 0,I J 0,I J 0,I J 0] 54);have hR:(w.alloc (M #[I J 0,I J 0,I J 0,I J 0] 54)).heap[w.heap.size]? =Y (M #[I J 0,I J 0,I J 0,I J 0] 54 (0,0)):=aP rfl;have G:w.grownBy (w.alloc (M #[I J 0,I J 0,I J 0,I J 0] 54)) (Y s):=bC8 ⟨rfl,rfl,rfl,z',fun _ _ _=>rfl⟩;clear h;go_enter func84,ntmps84
 go_wp2_with fail
 refine(mF 4 s a n cap k zs _ S hb hn (by omega) (by omega) (by omega)).mono ?_;rintro e W1⟨⟨sy,rfl⟩,S1,g1⟩;replace hR:=bS g1 hR (by simp;omega);replace G:=cC G g1;clear S g1;go_wp2_with fail
 refine(aY1 sy s a n cap (k+1) zs _ S1 hb hn (by omega)).mono ?_;rintro e W2⟨o,p,q,v,k2,rfl,hk2,S2,g2⟩;replace hR:=bS g2 hR (by simp;omega);replace G:=cC G g2;have hRX:=(Ab.1 hR).1;clear S1 g2;go_wp2_with fail
 refine(eD 12 s a n cap k2 zs _ S2.new hb hn (by omega) (by omega) (by omega)).mono ?_;rintro e W3⟨⟨x,x0,x1,rfl⟩,S3,g3⟩;have hX:W3.heap[W2.heap.size]? =Y (M #[I J o,I J p,I J q,I J v] 54 (0,0)):=bS g3 (Ar W2 _) (by have:=S2.lt;simp;omega);replace hR:=bS g3 ((Ex W2 _ _ hRX).trans hR) (by simp;omega);replace G:=cC G (kJ g3);have hXl:=(Ab.1 hX).1;have hne:w.heap.size<W2.heap.size:=hRX;clear S2 g3 hRX;generalize W2.heap.size=X' at*;have hc:x=0\/x=1\/x=2\/((x==0)=F'/\(x==1)=F'/\(x==2)=F'):=by
  by_cases h0:x=0
  .exact .inl h0
  .by_cases h1:x=1
   .exact .inr (.inl h1)
   .by_cases h2:x=2
    .exact .inr (.inr (.inl h2))
    .exact .inr (.inr (.inr ⟨by simpa using h0,by simpa using h1,by simpa using h2⟩))
 rcases hc with rfl|rfl|rfl|⟨n0,n1,n2⟩;focus
  go_wp2_with fail
  have S4:=S3.new (o:=M #[I J 0,I J 11,I J 1,I J 8] 2);have hX1:=(cN (o:=M #[I J 0,I J 11,I J 1,I J 8] 2) hXl).trans hX;have hR1:=(cN (o:=M #[I J 0,I J 11,I J 1,I J 8] 2) (Ab.1 hR).1).trans hR;refine(qL W3.heap.size 4 [0,11,1,8] s a n cap (k2+1) zs _ S4 hb hn (by omega) (aP rfl) (by have:=S3.lt;omega) rfl (by omega) (by omega)).mono ?_;rintro e W5⟨⟨y,_,rfl⟩,S',g'⟩;replace hX:=bS g' hX1 (by simp;omega);replace hR:=bS g' hR1 (by simp;omega);replace G:=cC G (kJ g');have hX6:(W5.setCell ⟨X',0,O⟩ (I J y)).heap[X']? =Y (M #[I J y,I J p,I J q,I J v] 54 (0,0)):=Ag _ X' 0 _ _ _ hX;have hg:W5.grownBy (W5.setCell ⟨X',0,O⟩ (I J y)) (Y X'):=iI;obtain⟨⟨r0,r1,r2,r3⟩,f0,f1,f2,f3⟩:=iO hX;have lX:=aD r0;go_upto_region 9 with fail
  replace S3:=dM S' hg (fun j hj=>by cases hj;omega);replace G:=eP G hg (by omega);replace hR:=bS hg hR (by simp;omega);replace hX:=hX6;clear S4 hX1 hR1 S' g' hX6 hg r0 r1 r2 r3 f0 f1 f2 f3 lX;generalize W5.setCell ⟨X',0,O⟩ (I J y)=V at*
 rotate_left;focus
  go_wp2_with fail
  have S4:=S3.new (o:=M #[I J (-1),I J 100,I J 3] 2);have hX1:=(cN (o:=M #[I J (-1),I J 100,I J 3] 2) hXl).trans hX;have hR1:=(cN (o:=M #[I J (-1),I J 100,I J 3] 2) (Ab.1 hR).1).trans hR;refine(qL W3.heap.size 3 [-1,100,3] s a n cap (k2+1) zs _ S4 hb hn (by omega) (aP rfl) (by have:=S3.lt;omega) rfl (by omega) (by omega)).mono ?_;rintro e W5⟨⟨y,_,rfl⟩,S',g'⟩;replace hX:=bS g' hX1 (by simp;omega);replace hR:=bS g' hR1 (by simp;omega);replace G:=cC G (kJ g');have hX6:(W5.setCell ⟨X',1,O⟩ (I J y)).heap[X']? =Y (M #[I J o,I J y,I J q,I J v] 54 (0,0)):=Ag _ X' 1 _ _ _ hX;have hg:W5.grownBy (W5.setCell ⟨X',1,O⟩ (I J y)) (Y X'):=iI;obtain⟨⟨r0,r1,r2,r3⟩,f0,f1,f2,f3⟩:=iO hX;have lX:=aD r0;go_upto_region 9 with fail
  replace S3:=dM S' hg (fun j hj=>by cases hj;omega);replace G:=eP G hg (by omega);replace hR:=bS hg hR (by simp;omega);replace hX:=hX6;clear S4 hX1 hR1 S' g' hX6 hg r0 r1 r2 r3 f0 f1 f2 f3 lX;generalize W5.setCell ⟨X',1,O⟩ (I J y)=V at*
 rotate_left;focus
  go_wp2_with fail
  have S4:=S3.new (o:=M #[I J (-1),I J 10000,I J 3] 2);have hX1:=(cN (o:=M #[I J (-1),I J 10000,I J 3] 2) hXl).trans hX;have hR1:=(cN (o:=M #[I J (-1),I J 10000,I J 3] 2) (Ab.1 hR).1).trans hR;refine(qL W3.heap.size 3 [-1,10000,3] s a n cap (k2+1) zs _ S4 hb hn (by omega) (aP rfl) (by have:=S3.lt;omega) rfl (by omega) (by omega)).mono ?_;rintro e W5⟨⟨y,_,rfl⟩,S',g'⟩;replace hX:=bS g' hX1 (by simp;omega);replace hR:=bS g' hR1 (by simp;omega);replace G:=cC G (kJ g');have hX6:(W5.setCell ⟨X',3,O⟩ (I J y)).heap[X']? =Y (M #[I J o,I J p,I J q,I J y] 54 (0,0)):=Ag _ X' 3 _ _ _ hX;have hg:W5.grownBy (W5.setCell ⟨X',3,O⟩ (I J y)) (Y X'):=iI;obtain⟨⟨r0,r1,r2,r3⟩,f0,f1,f2,f3⟩:=iO hX;have lX:=aD r0;go_upto_region 9 with fail
  replace S3:=dM S' hg (fun j hj=>by cases hj;omega);replace G:=eP G hg (by omega);replace hR:=bS hg hR (by simp;omega);replace hX:=hX6;clear S4 hX1 hR1 S' g' hX6 hg r0 r1 r2 r3 f0 f1 f2 f3 lX;generalize W5.setCell ⟨X',3,O⟩ (I J y)=V at*
 rotate_left;focus
  go_upto_region 9 with fail
 rotate_left;all_goals
  obtain⟨o1,p1,q1,v1,hX⟩:∃o1 p1 q1 v1:Int,_=Y (M #[I J o1,I J p1,I J q1,I J v1] 54 (0,0)):=⟨_,_,_,_,hX⟩
  obtain⟨⟨r0,r1,r2,r3⟩,f0,f1,f2,f3⟩:=iO hR;obtain⟨⟨y0,y1,y2,y3⟩,-,-,-,-⟩:=iO hX;have hput:=zS (I J o1) (I J p1) (I J q1) (I J v1) hR;have lR:=aD r0;clear hR hX;go_wp2;exact Ae (v:=U #[I J o1,I J p1,I J q1,I J v1]) (As Tryz.results84 _ _ w.heap.size 54 #[I J o1,I J p1,I J q1,I J v1] (0,0) _ rfl hput.1 underlying54 rfl (by kernel_rfl)) rfl ⟨_,_,_,_,_,rfl,by omega,dM S3 hput.2 (fun j hj=>by cases hj;exact hsl),eP G hput.2 z'⟩
theorem cA3(k p q v tx:Int)(s:EgS)(e:Eng)(w:World)(h:EgR w s e)(hcm:e.cm.length+1<=1048576):
  Calls prog 108 #[U #[Z s.ba s.bn s.bc,Z s.la s.ln s.lc,Z s.ka s.kn s.kc,Z s.ta s.tn s.tc,Z s.sa s.sn s.sc,Z s.oa s.on s.oc,Z s.xa s.xn s.xc,X e.bt,Z s.ma s.mn s.mc,Z s.aa s.an s.ac],I J tx,U #[I J k,I J p,I J q,I J v]] w (EngQ (e.cm.length+1) w):=by
 have kW:V' w (((w.alloc (M #[Z s.ba s.bn s.bc,Z s.la s.ln s.lc,Z s.ka s.kn s.kc,Z s.ta s.tn s.tc,Z s.sa s.sn s.sc,Z s.oa s.on s.oc,Z s.xa s.xn s.xc,X e.bt,Z s.ma s.mn s.mc,Z s.aa s.an s.ac] 68)).alloc (M #[I J k,I J p,I J q,I J v] 54)).alloc (M #[I J 0,X F',I J 0,Z O 0 0,Z O 0 0,Z O 0 0,Z O 0 0,Z O 0 0,Z O 0 0,Z O 0 0,Z O 0 0,Z O 0 0,X F',Z O 0 0,Z O 0 0] 112)):=(((Aa _ _).alloc z' _).alloc (by simp) _).alloc (by(try simp);(try omega)) _;have hE:(((w.alloc (M #[Z s.ba s.bn s.bc,Z s.la s.ln s.lc,Z s.ka s.kn s.kc,Z s.ta s.tn s.tc,Z s.sa s.sn s.sc,Z s.oa s.on s.oc,Z s.xa s.xn s.xc,X e.bt,Z s.ma s.mn s.mc,Z s.aa s.an s.ac] 68)).alloc (M #[I J k,I J p,I J q,I J v] 54)).alloc (M #[I J 0,X F',I J 0,Z O 0 0,Z O 0 0,Z O 0 0,Z O 0 0,Z O 0 0,Z O 0 0,Z O 0 0,Z O 0 0,Z O 0 0,X F',Z O 0 0,Z O 0 0] 112)).heap[w.heap.size]? =Y (M (s.cells e.bt) 68 (0,0)):=(cN (by(try simp);(try omega))).trans ((cN (by simp)).trans (aP rfl));have hO:(((w.alloc (M #[Z s.ba s.bn s.bc,Z s.la s.ln s.lc,Z s.ka s.kn s.kc,Z s.ta s.tn s.tc,Z s.sa s.sn s.sc,Z s.oa s.on s.oc,Z s.xa s.xn s.xc,X e.bt,Z s.ma s.mn s.mc,Z s.aa s.an s.ac] 68)).alloc (M #[I J k,I J p,I J q,I J v] 54)).alloc (M #[I J 0,X F',I J 0,Z O 0 0,Z O 0 0,Z O 0 0,Z O 0 0,Z O 0 0,Z O 0 0,Z O 0 0,Z O 0 0,Z O 0 0,X F',Z O 0 0,Z O 0 0] 112)).heap[w.heap.size+1]? =Y (M #[I J k,I J p,I J q,I J v] 54 (0,0)):=(cN (by simp)).trans (aP (by simp));have hRs:(((w.alloc (M #[Z s.ba s.bn s.bc,Z s.la s.ln s.lc,Z s.ka s.kn s.kc,Z s.ta s.tn s.tc,Z s.sa s.sn s.sc,Z s.oa s.on s.oc,Z s.xa s.xn s.xc,X e.bt,Z s.ma s.mn s.mc,Z s.aa s.an s.ac] 68)).alloc (M #[I J k,I J p,I J q,I J v] 54)).alloc (M #[I J 0,X F',I J 0,Z O 0 0,Z O 0 0,Z O 0 0,Z O 0 0,Z O 0 0,Z O 0 0,Z O 0 0,Z O 0 0,Z O 0 0,X F',Z O 0 0,Z O 0 0] 112)).heap[w.heap.size+1+1]? =Y (M (eA 0) 112 (0,0)):=aP (by simp);have hz0:Hid ((((w.alloc (M #[Z s.ba s.bn s.bc,Z s.la s.ln s.lc,Z s.ka s.kn s.kc,Z s.ta s.tn s.tc,Z s.sa s.sn s.sc,Z s.oa s.on s.oc,Z s.xa s.xn s.xc,X e.bt,Z s.ma s.mn s.mc,Z s.aa s.an s.ac] 68)).alloc (M #[I J k,I J p,I J q,I J v] 54)).alloc (M #[I J 0,X F',I J 0,Z O 0 0,Z O 0 0,Z O 0 0,Z O 0 0,Z O 0 0,Z O 0 0,Z O 0 0,Z O 0 0,Z O 0 0,X F',Z O 0 0,Z O 0 0] 112)).heap.size=w.heap.size+1+1+1):=by show _=_;simp
 go_enter func108,ntmps108
 go_upto_region 1 with fail
 generalize((w.alloc (M #[Z s.ba s.bn s.bc,Z s.la s.ln s.lc,Z s.ka s.kn s.kc,Z s.ta s.tn s.tc,Z s.sa s.sn s.sc,Z s.oa s.on s.oc,Z s.xa s.xn s.xc,X e.bt,Z s.ma s.mn s.mc,Z s.aa s.an s.ac] 68)).alloc (M #[I J k,I J p,I J q,I J v] 54)).alloc (M #[I J 0,X F',I J 0,Z O 0 0,Z O 0 0,Z O 0 0,Z O 0 0,Z O 0 0,Z O 0 0,Z O 0 0,Z O 0 0,Z O 0 0,X F',Z O 0 0,Z O 0 0] 112)=W0 at*;obtain⟨ob,HOB⟩:∃ob,Hid (w.heap.size+1=ob):=⟨_,rfl⟩
 obtain⟨rb,HRB⟩:∃rb,Hid (w.heap.size+1+1=rb):=⟨_,rfl⟩
 obtain⟨eb,HEB⟩:∃eb,Hid (w.heap.size=eb):=⟨_,rfl⟩
 simp only[HRB.out]at hRs⊢;simp only[HOB.out]at hO⊢;simp only[HEB.out]at hE⊢;have hrb:w.heap.size<=rb/\rb<W0.heap.size:=by have:=hz0.out;have:=HRB.out;omega
 clear HOB HRB hz0 HEB;have hP:EgP W0 eb s e:=⟨hE,h.below kW⟩
 have hbl:=hP.lt;go_wp2_with fail
 refine(aD1 eb s e tx _ hP).mono ?_;rintro r W1⟨⟨ac,rfl,hac⟩,hb1⟩;have HAC:=hid hac;clear hac;by_cases hc0:ac=0;rotate_left
 .have hcb:(ac !=0)=A':=by simpa using hc0
  go_wp2_with fail
  refine(fH ac _).mono ?_;rintro r W6⟨rfl,hb6⟩;have hB6:=hb1.trans (hb6.mono hb1.size);have hR6:W6.heap[rb]? =Y (M (eA 0) 112 (0,0)):=(hB6.block rb hrb.2).trans hRs;obtain⟨z0,z1,z2,z3,z4,z5,z6,z7,z8,z9,z10,z11,z12,z13,z14,zf⟩:=iC hR6;have zfz:=fun i=>zf i;have hput:=lW (I J ac) (X F') (I J 0) (Z O 0 0) (Z O 0 0) (Z O 0 0) (Z O 0 0) (Z O 0 0) (Z O 0 0) (Z O 0 0) (Z O 0 0) (Z O 0 0) (X F') (Z O 0 0) (Z O 0 0) hR6;have hrl:=aD z0;simp only[eA];clear zf hR6;go_wp2;refine Ae (v:=U (eA (ac))) (As Tryz.results108 _ _ rb 112 (eA (ac)) (0,0) _ rfl hput.1 underlying112 rfl (by kernel_rfl)) rfl (EngQ.bad _ _ ?_);exact cK (kW.trans (hB6.mono kW.size)) hput.2 (fun k hk=>by cases hk;exact hrb.1) (by have:=kW.size;have:=hB6.size;omega)
 have hcb:(ac !=0)=F':=by simpa using hc0
 obtain⟨hG,hT⟩:=HAC.out hc0;clear HAC;have htn:=hG.tn;have hTr:1<=tx/\tx<=e.tx.length:=by unfold isT at hT;exact fT hT
 obtain⟨i,hi0⟩:∃i:Nat,tx=(i:Int)+1:=⟨(tx-1).toNat,by omega⟩
 have hi:i<e.tx.length:=by omega
 have hw:IntKind.i64.wrap (tx-1)=(i:Int):=by rw[hi0,show(i:Int)+1-1=(i:Int)by omega];exact Br _ ⟨by omega,by omega⟩
 have HTX:=hid hi0;clear hi0 hT;have hP1:=hP.below hb1;have HTN:=hP1.2.tx.len;have his:i<s.tn:=by have:=HTN.out;omega
 obtain⟨_,_,_,x3,_,_,_,_,_,_⟩:=hP1.all;obtain⟨g,off,au,nu,cu,hta,t0,t1,t2,t3,t4,t5,t6,t7,_,_⟩:=hP1.2.tx.txn his;rw[hta]at x3;have HTA:=hid hta;clear hta;have hgl:=aD t0;have hbl1:=hP1.lt;have HTk:=hid (hG.tk i hi);obtain⟨tt,HTt⟩:∃tt,Hid (aS e.tx i=tt):=⟨_,rfl⟩
 rw[HTt.out]at t0 t1 t2 t4 t5 t6 t7 HTk;obtain⟨tid,tsy,tst,tun,twk,twa,twb,twv⟩:=tt;simp only at t0 t1 t2 t4 t5 t6 t7;have hb2:V' W1 (W1.alloc (M #[I J tid,X tsy,I J tst,Z au nu cu,I J twk,I J twa,I J twb,I J twv] 155)):=(Aa _ _).alloc z' _;have hTb:(W1.alloc (M #[I J tid,X tsy,I J tst,Z au nu cu,I J twk,I J twa,I J twb,I J twv] 155)).heap[W1.heap.size]? =Y (M #[I J tid,X tsy,I J tst,Z au nu cu,I J twk,I J twa,I J twb,I J twv] 155 (0,0)):=aP rfl;go_upto_region 5 with fail
 have hB2:=hb1.trans (hb2.mono hb1.size);generalize W1.alloc (M #[I J tid,X tsy,I J tst,Z au nu cu,I J twk,I J twa,I J twb,I J twv] 155)=W2 at*;generalize W1.heap.size=tb at*;obtain⟨⟨q0,q1,q2,_⟩,_⟩:=bZ7 hTb;have htbl:=aD q0;have hP2:=hP.below hB2;clear x3 t0 t1 t2 t3 t4 t5 t6 t7 hb2 hgl hbl1 hbl;by_cases hst:tst=1;rotate_left
 .have hsb:(tst !=1)=A':=by simpa using hst
  go_wp2_with fail
  refine(fH 10 _).mono ?_;rintro r W6⟨rfl,hb6⟩;have hB6:=hB2.trans (hb6.mono hB2.size);have hR6:W6.heap[rb]? =Y (M (eA 0) 112 (0,0)):=(hB6.block rb hrb.2).trans hRs;obtain⟨z0,z1,z2,z3,z4,z5,z6,z7,z8,z9,z10,z11,z12,z13,z14,zf⟩:=iC hR6;have zfz:=fun i=>zf i;have hput:=lW (I J 10) (X F') (I J 0) (Z O 0 0) (Z O 0 0) (Z O 0 0) (Z O 0 0) (Z O 0 0) (Z O 0 0) (Z O 0 0) (Z O 0 0) (Z O 0 0) (X F') (Z O 0 0) (Z O 0 0) hR6;have hrl:=aD z0;simp only[eA];clear zf hR6;go_wp2;refine Ae (v:=U (eA (10))) (As Tryz.results108 _ _ rb 112 (eA (10)) (0,0) _ rfl hput.1 underlying112 rfl (by kernel_rfl)) rfl (EngQ.bad _ _ ?_);exact cK (kW.trans (hB6.mono kW.size)) hput.2 (fun k hk=>by cases hk;exact hrb.1) (by have:=kW.size;have:=hB6.size;omega)
 have hsb:(tst !=1)=F':=by simpa using hst
 have hwt:eH e.lk tx<0:=by have h1:=HTk.out.wt (by show tst≠2;omega);have h2:tid=(i:Int)+1:=HTk.out.id;have h3:=HTX.out;have h4:eH e.lk tid<0:=h1;rw[h2,<-h3]at h4;exact h4
 have HWT:=hid hwt;clear hwt HTt HTk;obtain⟨o0,o1,o2,o3⟩:=(iO hO).1;have o0:=keep_cell hB2 o0;have o1:=keep_cell hB2 o1;have o2:=keep_cell hB2 o2;have o3:=keep_cell hB2 o3;have hobl:=aD o0;go_wp2_with fail
 refine(oH k p q v _).mono ?_;rintro r W3⟨rfl,hb3⟩;obtain⟨oc,HOc⟩:∃oc,Hid (aF k p q v=oc):=⟨_,rfl⟩
 simp only[HOc.out];have hB3:=hB2.trans (hb3.mono hB2.size);have hP3:=hP.below hB3;by_cases hoc:oc=0;rotate_left
 .have hob0:(oc !=0)=A':=by simpa using hoc
  go_wp2_with fail
  refine(fH oc _).mono ?_;rintro r W6⟨rfl,hb6⟩;have hB6:=hB3.trans (hb6.mono hB3.size);have hR6:W6.heap[rb]? =Y (M (eA 0) 112 (0,0)):=(hB6.block rb hrb.2).trans hRs;obtain⟨z0,z1,z2,z3,z4,z5,z6,z7,z8,z9,z10,z11,z12,z13,z14,zf⟩:=iC hR6;have zfz:=fun i=>zf i;have hput:=lW (I J oc) (X F') (I J 0) (Z O 0 0) (Z O 0 0) (Z O 0 0) (Z O 0 0) (Z O 0 0) (Z O 0 0) (Z O 0 0) (Z O 0 0) (Z O 0 0) (X F') (Z O 0 0) (Z O 0 0) hR6;have hrl:=aD z0;simp only[eA];clear zf hR6;go_wp2;refine Ae (v:=U (eA (oc))) (As Tryz.results108 _ _ rb 112 (eA (oc)) (0,0) _ rfl hput.1 underlying112 rfl (by kernel_rfl)) rfl (EngQ.bad _ _ ?_);exact cK (kW.trans (hB6.mono kW.size)) hput.2 (fun k hk=>by cases hk;exact hrb.1) (by have:=kW.size;have:=hB6.size;omega)
 have hob0:(oc !=0)=F':=by simpa using hoc
 have HOp:Hid (aF k p q v=0):=HOc.out.trans hoc;clear HOc hoc;have o0:=keep_cell hb3 o0;have o1:=keep_cell hb3 o1;have o2:=keep_cell hb3 o2;have o3:=keep_cell hb3 o3;have q1:=keep_cell hb3 q1;have hobl:=aD o0;have htbl:=aD q1;clear q0 q2 hP2;go_upto_region 10 with fail
 go_cut [53] (fun sl wx=>(∃y:Bool,sl=X y)/\wx=W3)
 case first=>
  cases tsy
  .by_cases h8:8<=k
   .go_wp2_with fail
    go_meet;exact⟨⟨_,rfl⟩,rfl⟩
   .go_wp2_with fail
    go_meet;exact⟨⟨_,rfl⟩,rfl⟩
  .by_cases h8:8<=k
   .have e2:(k==2)=F':=by simp;omega
    have e3:(k==3)=F':=by simp;omega
    go_wp2_with fail
    go_meet;exact⟨⟨_,rfl⟩,rfl⟩
   .by_cases k2:k=2
    .subst k2;go_wp2_with fail
     go_meet;exact⟨⟨_,rfl⟩,rfl⟩
    .have e2:(k==2)=F':=by simpa using k2
     go_wp2_with fail
     go_meet;exact⟨⟨_,rfl⟩,rfl⟩
 case rest=>
  obtain⟨⟨y,rfl⟩,hwc⟩:=hcut;obtain rfl:=hwc.symm;clear q1;cases y;rotate_left
  .skip
   go_wp2_with fail
   refine(fH 1 _).mono ?_;rintro r W6⟨rfl,hb6⟩;have hB6:=hB3.trans (hb6.mono hB3.size);have hR6:W6.heap[rb]? =Y (M (eA 0) 112 (0,0)):=(hB6.block rb hrb.2).trans hRs;obtain⟨z0,z1,z2,z3,z4,z5,z6,z7,z8,z9,z10,z11,z12,z13,z14,zf⟩:=iC hR6;have zfz:=fun i=>zf i;have hput:=lW (I J 1) (X F') (I J 0) (Z O 0 0) (Z O 0 0) (Z O 0 0) (Z O 0 0) (Z O 0 0) (Z O 0 0) (Z O 0 0) (Z O 0 0) (Z O 0 0) (X F') (Z O 0 0) (Z O 0 0) hR6;have hrl:=aD z0;simp only[eA];clear zf hR6;go_wp2;refine Ae (v:=U (eA (1))) (As Tryz.results108 _ _ rb 112 (eA (1)) (0,0) _ rfl hput.1 underlying112 rfl (by kernel_rfl)) rfl (EngQ.bad _ _ ?_);exact cK (kW.trans (hB6.mono kW.size)) hput.2 (fun k hk=>by cases hk;exact hrb.1) (by have:=kW.size;have:=hB6.size;omega)
  have x7:W3.cell? ⟨eb,7,O⟩=_:=hP3.all.2.2.2.2.2.2.2.1;have hbl3:=hP3.lt;go_upto_region 12 with fail
  go_cut [62] (fun sl wx=>(∃y:Bool,sl=X y)/\wx=W3)
  case first=>
   by_cases k5:k=5
   .subst k5;go_wp2_with fail
    go_meet;exact⟨⟨_,rfl⟩,rfl⟩
   .have e5:(k==5)=F':=by simpa using k5
    go_wp2_with fail
    go_meet;exact⟨⟨_,rfl⟩,rfl⟩
  case rest=>
   obtain⟨⟨y,rfl⟩,hwc⟩:=hcut;obtain rfl:=hwc.symm;cases y;rotate_left
   .skip
    go_wp2_with fail
    refine(fH 4 _).mono ?_;rintro r W6⟨rfl,hb6⟩;have hB6:=hB3.trans (hb6.mono hB3.size);have hR6:W6.heap[rb]? =Y (M (eA 0) 112 (0,0)):=(hB6.block rb hrb.2).trans hRs;obtain⟨z0,z1,z2,z3,z4,z5,z6,z7,z8,z9,z10,z11,z12,z13,z14,zf⟩:=iC hR6;have zfz:=fun i=>zf i;have hput:=lW (I J 4) (X F') (I J 0) (Z O 0 0) (Z O 0 0) (Z O 0 0) (Z O 0 0) (Z O 0 0) (Z O 0 0) (Z O 0 0) (Z O 0 0) (Z O 0 0) (X F') (Z O 0 0) (Z O 0 0) hR6;have hrl:=aD z0;simp only[eA];clear zf hR6;go_wp2;refine Ae (v:=U (eA (4))) (As Tryz.results108 _ _ rb 112 (eA (4)) (0,0) _ rfl hput.1 underlying112 rfl (by kernel_rfl)) rfl (EngQ.bad _ _ ?_);exact cK (kW.trans (hB6.mono kW.size)) hput.2 (fun k hk=>by cases hk;exact hrb.1) (by have:=kW.size;have:=hB6.size;omega)
   clear x7;go_wp2_with fail
   refine(aK5 k p q v tx i eb s e _ hP3 his HTX.out).mono ?_;rintro r W4⟨⟨x,rfl,hx⟩,hb4⟩;have hB4:=hB3.trans (hb4.mono hB3.size);cases x;rotate_left
   .skip
    go_wp2_with fail
    refine(fH 2 _).mono ?_;rintro r W6⟨rfl,hb6⟩;have hB6:=hB4.trans (hb6.mono hB4.size);have hR6:W6.heap[rb]? =Y (M (eA 0) 112 (0,0)):=(hB6.block rb hrb.2).trans hRs;obtain⟨z0,z1,z2,z3,z4,z5,z6,z7,z8,z9,z10,z11,z12,z13,z14,zf⟩:=iC hR6;have zfz:=fun i=>zf i;have hput:=lW (I J 2) (X F') (I J 0) (Z O 0 0) (Z O 0 0) (Z O 0 0) (Z O 0 0) (Z O 0 0) (Z O 0 0) (Z O 0 0) (Z O 0 0) (Z O 0 0) (X F') (Z O 0 0) (Z O 0 0) hR6;have hrl:=aD z0;simp only[eA];clear zf hR6;go_wp2;refine Ae (v:=U (eA (2))) (As Tryz.results108 _ _ rb 112 (eA (2)) (0,0) _ rfl hput.1 underlying112 rfl (by kernel_rfl)) rfl (EngQ.bad _ _ ?_);exact cK (kW.trans (hB6.mono kW.size)) hput.2 (fun k hk=>by cases hk;exact hrb.1) (by have:=kW.size;have:=hB6.size;omega)
   have hac:e.ac.length<=199:=by have h1:=hx rfl;have h2:=h.ac.len.out;omega
   clear hx;have kB4:=kW.trans (hB4.mono kW.size);have hP4:=hP.below hB4;obtain⟨x0,x1,x2,x3,x4,x5,x6,x7,x8,x9⟩:=hP4.all;have o0:=keep_cell hb4 o0;have o1:=keep_cell hb4 o1;have o2:=keep_cell hb4 o2;have o3:=keep_cell hb4 o3;have hobl:=aD o0;have hbl4:=hP4.lt;have hRW:W4.heap[rb]? =Y (M (eA 0) 112 (0,0)):=(hB4.block rb hrb.2).trans hRs;have hrb4:rb<W4.heap.size:=by have:=hB4.size;omega
   go_wp2_with fail
   refine(aW7 k p q v tx i s e _ (h.below kB4) hG.ripe hac hi HTX.out HOp.out HWT.out hcm).mono ?_;rintro r W7 hq;clear x0 x1 x2 x3 x4 x5 x6 x7 x8 x9 o0 o1 o2 o3 hP4 hbl4 hobl;obtain⟨c7,wt7,id7,xa7,xn7,xc7,ya7,yn7,yc7,s7,bt7,e7,T7,rfl,hbt7,hO7,hP7,hm1,hm2,hm3,hm4⟩:=hq;have HBT:=hid hbt7;clear hbt7;have hR7:W7.heap[rb]? =Y (M (eA 0) 112 (0,0)):=(hP7.bel.block rb hrb4).trans hRW;obtain⟨z0,z1,z2,z3,z4,z5,z6,z7,z8,z9,z10,z11,z12,z13,z14,zf⟩:=iC hR7;have zfz:=fun i=>zf i;have hput:=lW (I J c7) (X wt7) (I J id7) (Z xa7 xn7 xc7) (Z ya7 yn7 yc7) (Z s7.ba s7.bn s7.bc) (Z s7.la s7.ln s7.lc) (Z s7.ka s7.kn s7.kc) (Z s7.ta s7.tn s7.tc) (Z s7.sa s7.sn s7.sc) (Z s7.oa s7.on s7.oc) (Z s7.xa s7.xn s7.xc) (X bt7) (Z s7.ma s7.mn s7.mc) (Z s7.aa s7.an s7.ac) hR7;have hrl:=aD z0;have hT8:T7 rb=8:=hP7.old rb hrb4;simp only[oD];clear zf hR7;go_wp2;refine Ae (v:=U (oD c7 wt7 id7 (Z xa7 xn7 xc7) (Z ya7 yn7 yc7) s7 bt7)) (As Tryz.results108 _ _ rb 112 (oD c7 wt7 id7 (Z xa7 xn7 xc7) (Z ya7 yn7 yc7) s7 bt7) (0,0) _ rfl hput.1 underlying112 rfl (by kernel_rfl)) rfl ⟨c7,wt7,id7,xa7,xn7,xc7,ya7,yn7,yc7,s7,bt7,e7,T7,rfl,HBT.out,hO7.kept (T':=T7) (fun k _ h8=>gC hput.2 hT8 h8),⟨cK (kB4.trans (hP7.bel.mono kB4.size)) hput.2 (fun k hk=>by cases hk;exact hrb.1) (by have:=kB4.size;have:=hP7.bel.size;omega),fun x hx=>hP7.old x (by have:=kB4.size;omega)⟩,hm1,hm2,hm3,hm4⟩
end Go.Proofs.YtpbbokalojdooaaGreat
