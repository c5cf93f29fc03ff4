import Derived.Test.YtpbbokalojdooaaGreatQbe
namespace Go.Proofs.YtpbbokalojdooaaGreat
open Go.RowKit Ch Go.Proofs.Tryz
set_option linter.unusedSimpArgs false
set_option linter.unusedVariables false
set_option maxRecDepth 20000
set_option maxHeartbeats 8000000
open Value renaming int->I,slice->Z,bool->X,agg->U
open IntKind renaming i64->J
open Option renaming none->O,some->Y
open Obj renaming cells->M
open Ending renaming returned->R'
open Bool renaming true->A',false->F'
variable {a0:Act} {L:Int->Bool} {zs:List Int} {rs:List Rec} {R base:List Row} {xs:List Value} {i:Nat} {T:Nat->Nat} {vs:Nat->Value} {a:Option Addr} {o:Option Int} {r:Rec} {S:Sl} {t:TypeId} {x:Value} {w:World}
def cpD(j:Nat):Nat:=match j with|0=>7|3=>10|6=>13|9=>16|10=>17|13=>20|16=>23|19=>26|20=>27|_=>3
def cpE:List Nat:=[0,3,6,9,10,13,16,19,20,21]
def cpP(j:Nat):List Nat:=match j with|3=>[0]|13=>[10]|19=>[16]|20=>[3,6,9,13,19]|_=>[]
theorem aZ0:(cpE.all fun i=>cpE.all fun j=>cpD i !=cpD j||i==j)=A':=by kernel_rfl
theorem cH6:cpE.Nodup:=by decide
theorem cU7(hi:cpE.contains i=A')(hs:(decide (cpD i<a0.tmps.size))=A'):(dV a0 cpD cpE vs).eval (.tmp (cpD i))=vs i:=mH cpD vs i cpE a0 aZ0 cH6 (by simpa using hi) hs
def CpR(s:EgS)(e:Eng)(j:Nat)(v:Value)(T:Nat->Nat)(w:World):Prop:=match j with
 |0=>Empt w T 0 86 v
 |3=>∃a c,v=Z a s.bn c/\CellsAt (gT (Ice T) w) a (s.bn*3) (rcells e.base)
 |6=>∃a c,v=Z a s.ln c/\LvAt (gT (Ice T) w) a s.ln e.lv
 |9=>∃a c,v=Z a s.kn c/\LkAt (gT (Ice T) w) a s.kn e.lk
 |10=>Empt w T 0 265 v
 |13=>∃a c,v=Z a s.xn c/\CellsAt (gT (Ice T) w) a (s.xn*2) (hcells e.ix)
 |16=>Empt w T 6 2 v
 |19=>∃a c,v=Z a s.mn c/\OwnT w 0 T 6 2 1 (Z a s.mn c) s.mn (icells e.cm)
 |20=>∃a1 c1 a2 c2 a3 c3 a4 c4 a5 c5,v=U #[Z a1 s.bn c1,Z a2 s.ln c2,Z a3 s.kn c3,Z O 0 0,Z O 0 0,Z O 0 0,Z a4 s.xn c4,X e.bt,Z a5 s.mn c5,Z O 0 0]/\
   CellsAt (gT (Ice T) w) a1 (s.bn*3) (rcells e.base)/\LvAt (gT (Ice T) w) a2 s.ln e.lv/\LkAt (gT (Ice T) w) a3 s.kn e.lk/\CellsAt (gT (Ice T) w) a4 (s.xn*2) (hcells e.ix)/\OwnT w 0 T 6 2 1 (Z a5 s.mn c5) s.mn (icells e.cm)
 |_=>∃g,v= .pointer (Y ⟨g,0,O⟩)/\w.heap[g]? =Y (M #[Z O 0 0,Z O 0 0,Z O 0 0,Z O 0 0,Z O 0 0,Z O 0 0,Z O 0 0,X F',Z O 0 0,Z O 0 0] 68 (0,0))/\T g=1
def cqD(j:Nat):Nat:=match j with|0=>28|4=>32|5=>33|9=>37|10=>38|_=>39
def cqE:List Nat:=[0,4,5,9,10,11]
def cqP(j:Nat):List Nat:=match j with|4=>[0]|9=>[5]|10=>[4,9]|_=>[]
theorem aI9:(cqE.all fun i=>cqE.all fun j=>cqD i !=cqD j||i==j)=A':=by kernel_rfl
theorem bI3:cqE.Nodup:=by decide
theorem dF1(hi:cqE.contains i=A')(hs:(decide (cqD i<a0.tmps.size))=A'):(dV a0 cqD cqE vs).eval (.tmp (cqD i))=vs i:=mH cqD vs i cqE a0 aI9 bI3 (by simpa using hi) hs
def CqR(s:EgS)(e:Eng)(g:Nat)(j:Nat)(v:Value)(T:Nat->Nat)(w:World):Prop:=match j with
 |0=>Empt w T 4 5 v
 |4=>∃a c,v=Z a s.sn c/\OwnT w 0 T 4 5 1 (Z a s.sn c) s.sn (bts e.su)
 |5=>Empt w T 5 5 v
 |9=>∃a c,v=Z a s.on c/\OwnT w 0 T 5 5 1 (Z a s.on c) s.on (bts e.lo)
 |10=>∃a c a' c',v=U #[Z a s.sn c,Z a' s.on c']/\OwnT w 0 T 4 5 1 (Z a s.sn c) s.sn (bts e.su)/\OwnT w 0 T 5 5 1 (Z a' s.on c') s.on (bts e.lo)
 |_=>v= .pointer (Y ⟨g,4,O⟩)
theorem CqR.mono(s:EgS)(e:Eng)(g:Nat):∀j v T T' w w',CqR s e g j v T w->(∀k,Kp k T T' w w')->w.heap.size<=w'.heap.size->CqR s e g j v T' w':=by
 intro j v T T' w w' h hk _;unfold CqR at*;split at h
 .exact h.kept (hk 4)
 .obtain⟨a,c,h1,h2⟩:=h;exact⟨a,c,h1,h2.kept (hk 4)⟩
 .exact h.kept (hk 5)
 .obtain⟨a,c,h1,h2⟩:=h;exact⟨a,c,h1,h2.kept (hk 5)⟩
 .obtain⟨a,c,a',c',h1,h2,h3⟩:=h;exact⟨a,c,a',c',h1,h2.kept (hk 4),h3.kept (hk 5)⟩
 .exact h
theorem EgO.bare{w0:World}{s:EgS}{e:Eng}{a1 a2 a3 a4 a5:Option Addr}{c1 c2 c3 c4 c5:Nat}(h:EgR w0 s e)(k1:CellsAt (gT (Ice T) w) a1 (s.bn*3) (rcells e.base))(k2:LvAt (gT (Ice T) w) a2 s.ln e.lv)(k3:LkAt (gT (Ice T) w) a3 s.kn e.lk)(k4:CellsAt (gT (Ice T) w) a4 (s.xn*2) (hcells e.ix))(k5:OwnT w 0 T 6 2 1 (Z a5 s.mn c5) s.mn (icells e.cm)):
  EgO w 0 T ⟨a1,s.bn,c1,a2,s.ln,c2,a3,s.kn,c3,O,0,0,O,0,0,O,0,0,a4,s.xn,c4,a5,s.mn,c5,O,0,0⟩ {e with tx:=[],su:=[],lo:=[],ac:=[]}:=by
 have nilT:∀k t sz,OwnT w 0 T k t sz (Z O 0 0) 0 []:=fun k t sz=>⟨World.ownsRow_nil _ _ _ _,fun g hg=>by simp[Value.ownBlock]at hg⟩
 exact⟨k1,k2,k3,k4,⟨fun _=>Z O 0 0,rfl,⟨[],nilT _ _ _,fun i j hi=>by simp at hi⟩,fun i hi=>by simp at hi,fun i=>by simp[aQ,Tx.zero]⟩,nilT _ _ _,nilT _ _ _,k5,⟨fun _=>Z O 0 0,rfl,⟨[],nilT _ _ _,fun i j hi=>by simp at hi⟩,fun i hi=>by simp at hi,fun i=>by simp[eK,Ac.zero]⟩,fun i=>by simp,fun i=>by simp,h.n1,h.n2,h.n3,by simp,by simp,by simp,h.n7,h.n8,by simp⟩
def cwD(j:Nat):Nat:=match j with|1=>71|7=>77|_=>78
def cwE:List Nat:=[1,7,8]
def cwP(j:Nat):List Nat:=match j with|8=>[7]|_=>[]
theorem bV9:(cwE.all fun i=>cwE.all fun j=>cwD i !=cwD j||i==j)=A':=by kernel_rfl
theorem cU8:cwE.Nodup:=by decide
def CwR(a:Option Addr)(k c:Nat)(t:Ac)(nn:Nat)(j:Nat)(v:Value)(T:Nat->Nat)(w:World):Prop:=match j with
 |1=>v=Z a k c
 |7=>∃a7 c7,v=U #[I J t.tx,I J t.k,I J t.a,I J t.b,I J t.v,Z a7 nn c7]/\OwnT w 0 T (2*k+11) 2 1 (Z a7 nn c7) t.an.length (icells t.an)
 |_=>∃a7 c7 gb,v=Z (Y ⟨gb,0,O⟩) 1 1/\w.heap[gb]? =Y (M #[I J t.tx,I J t.k,I J t.a,I J t.b,I J t.v,Z a7 nn c7] 56 (0,0))/\T gb=8/\OwnT w 0 T (2*k+11) 2 1 (Z a7 nn c7) t.an.length (icells t.an)
theorem CwR.mono(a:Option Addr)(k c:Nat)(t:Ac)(nn:Nat):∀j v T T' w w',CwR a k c t nn j v T w->(∀k,Kp k T T' w w')->w.heap.size<=w'.heap.size->CwR a k c t nn j v T' w':=by
 intro j v T T' w w' h hk _;unfold CwR at*;split at h
 .exact h
 .obtain⟨a7,c7,h1,h2⟩:=h;exact⟨a7,c7,h1,h2.kept (hk _)⟩
 .obtain⟨a7,c7,gb,h1,h2,h3,h4⟩:=h;obtain⟨h5,h6⟩:=aY h2 h3 (hk 8);exact⟨a7,c7,gb,h1,h5,h6,h4.kept (hk _)⟩
theorem cM0{gb:Nat}{t:Ac}(h:w.heap[gb]? =Y (M #[I J t.tx,I J t.k,I J t.a,I J t.b,I J t.v,x] 56 (0,0))):CellsAt w (Y ⟨gb,0,O⟩) (1*6) (acc6 t x):=by refine⟨rfl,fun _=>⟨_,_,rfl,fun i hi=>?_⟩⟩;rw[cell_of_row _ _ _ _ _ _ h,Nat.zero_add];simp[acc6]
theorem CpR.mono(s:EgS)(e:Eng):∀j v T T' w w',CpR s e j v T w->(∀k,Kp k T T' w w')->w.heap.size<=w'.heap.size->CpR s e j v T' w':=by
 intro j v T T' w w' h hk _;have hs:=eG (hk 0);unfold CpR at*;split at h
 .exact h.kept (hk 0)
 .obtain⟨a,c,h1,h2⟩:=h;exact⟨a,c,h1,h2.sub hs⟩
 .obtain⟨a,c,h1,h2⟩:=h;exact⟨a,c,h1,h2.sub hs⟩
 .obtain⟨a,c,h1,h2⟩:=h;exact⟨a,c,h1,h2.sub hs⟩
 .exact h.kept (hk 0)
 .obtain⟨a,c,h1,h2⟩:=h;exact⟨a,c,h1,h2.sub hs⟩
 .exact h.kept (hk 6)
 .obtain⟨a,c,h1,h2⟩:=h;exact⟨a,c,h1,h2.kept (hk 6)⟩
 .obtain⟨a1,c1,a2,c2,a3,c3,a4,c4,a5,c5,h1,h2,h3,h4,h5,h6⟩:=h;exact⟨a1,c1,a2,c2,a3,c3,a4,c4,a5,c5,h1,h2.sub hs,h3.sub hs,h4.sub hs,h5.sub hs,h6.kept (hk 6)⟩
 .obtain⟨g,h1,h2,h3⟩:=h;obtain⟨h4,h5⟩:=aY h2 h3 (hk 1);exact⟨g,h1,h4,h5⟩
theorem bN4{sz:Nat}{n c:Nat}(h:OwnT w 0 T 0 t sz (Z a n c) n xs):CellsAt (gT (Ice T) w) a (n*sz) xs:=by have hc:=h.cells;refine⟨hc.1,fun h0=>?_⟩;obtain⟨b,off,ha,hi⟩:=hc.2 h0;refine⟨b,off,ha,fun i hlt=>?_⟩;have h1:=hi i hlt;have h2:xs[i]? =Y (xs[i]'(by have:=hc.1;omega)):=List.getElem?_eq_getElem _;rw[h2]at h1⊢;subst ha;exact kI h1 (by simp[Ice,h.2 b rfl])
theorem xK(s:EgS)(e:Eng)(w:World)(h:EgR w s e)(hlv:aL e.lv=0):
  Calls prog 106 #[U #[Z s.ba s.bn s.bc,Z s.la s.ln s.lc,Z s.ka s.kn s.kc,Z s.ta s.tn s.tc,Z s.sa s.sn s.sc,Z s.oa s.on s.oc,Z s.xa s.xn s.xc,X e.bt,Z s.ma s.mn s.mc,Z s.aa s.an s.ac]] w fun r w'=>(∃s' T,r=R' (U (s'.cells e.bt))/\EgO w' 0 T s' e/\(∀x,x<w.heap.size->T x=8))/\Below w.heap.size w w':=by
 have HL:=h.lv.len;have hne:∀k,k<s.ln->(e.lv.getD k []).length≠0:=fun k hk=>(fR hlv k (by have:=HL.out;omega)).1;have hlm:∀i,(e.lv.getD i []).length<=9223372036854775807:=fun i=>by have:=eZ h.n2 i;omega
 have hkm:∀i,(aH e.lk i).hs.length<=9223372036854775807/\(aH e.lk i).qs.length<=9223372036854775807:=fun i=>by have:=iM h.n3 i;constructor<;>omega
 have hsu:=fun W (hW:Below w.heap.size w W)=>(show CellsAt W s.sa (s.sn*1) (bts e.su)by rw[Nat.mul_one];exact h.su.below hW)
 have hlo:=fun W (hW:Below w.heap.size w W)=>(show CellsAt W s.oa (s.on*1) (bts e.lo)by rw[Nat.mul_one];exact h.lo.below hW)
 have n1:=h.n1;have n4:=h.n4;have n5:=h.n5;have n6:=h.n6;have n7:=h.n7;have n8:=h.n8;have n9:=h.n9;go_enter func106,ntmps106
 go_wp2_with fail
 have Hp:((w.alloc (M #[Z s.ba s.bn s.bc,Z s.la s.ln s.lc,Z s.ka s.kn s.kc,Z s.ta s.tn s.tc,Z s.sa s.sn s.sc,Z s.oa s.on s.oc,Z s.xa s.xn s.xc,X e.bt,Z s.ma s.mn s.mc,Z s.aa s.an s.ac] 68)).alloc (M #[Z O 0 0,Z O 0 0,Z O 0 0,Z O 0 0,Z O 0 0,Z O 0 0,Z O 0 0,X F',Z O 0 0,Z O 0 0] 68)).heap[w.heap.size]? =Y (M #[Z s.ba s.bn s.bc,Z s.la s.ln s.lc,Z s.ka s.kn s.kc,Z s.ta s.tn s.tc,Z s.sa s.sn s.sc,Z s.oa s.on s.oc,Z s.xa s.xn s.xc,X e.bt,Z s.ma s.mn s.mc,Z s.aa s.an s.ac] 68 (0,0)):=(dJ (by simp)).trans (aO rfl);have Hq:((w.alloc (M #[Z s.ba s.bn s.bc,Z s.la s.ln s.lc,Z s.ka s.kn s.kc,Z s.ta s.tn s.tc,Z s.sa s.sn s.sc,Z s.oa s.on s.oc,Z s.xa s.xn s.xc,X e.bt,Z s.ma s.mn s.mc,Z s.aa s.an s.ac] 68)).alloc (M #[Z O 0 0,Z O 0 0,Z O 0 0,Z O 0 0,Z O 0 0,Z O 0 0,Z O 0 0,X F',Z O 0 0,Z O 0 0] 68)).heap[w.heap.size+1]? =Y (M #[Z O 0 0,Z O 0 0,Z O 0 0,Z O 0 0,Z O 0 0,Z O 0 0,Z O 0 0,X F',Z O 0 0,Z O 0 0] 68 (0,0)):=aO (by simp);have kW:Below w.heap.size w ((w.alloc (M #[Z s.ba s.bn s.bc,Z s.la s.ln s.lc,Z s.ka s.kn s.kc,Z s.ta s.tn s.tc,Z s.sa s.sn s.sc,Z s.oa s.on s.oc,Z s.xa s.xn s.xc,X e.bt,Z s.ma s.mn s.mc,Z s.aa s.an s.ac] 68)).alloc (M #[Z O 0 0,Z O 0 0,Z O 0 0,Z O 0 0,Z O 0 0,Z O 0 0,Z O 0 0,X F',Z O 0 0,Z O 0 0] 68)):=(q').alloc (by simp) _;have hW1:((w.alloc (M #[Z s.ba s.bn s.bc,Z s.la s.ln s.lc,Z s.ka s.kn s.kc,Z s.ta s.tn s.tc,Z s.sa s.sn s.sc,Z s.oa s.on s.oc,Z s.xa s.xn s.xc,X e.bt,Z s.ma s.mn s.mc,Z s.aa s.an s.ac] 68)).alloc (M #[Z O 0 0,Z O 0 0,Z O 0 0,Z O 0 0,Z O 0 0,Z O 0 0,Z O 0 0,X F',Z O 0 0,Z O 0 0] 68)).heap.size=w.heap.size+1+1:=by simp
 generalize(w.alloc (M #[Z s.ba s.bn s.bc,Z s.la s.ln s.lc,Z s.ka s.kn s.kc,Z s.ta s.tn s.tc,Z s.sa s.sn s.sc,Z s.oa s.on s.oc,Z s.xa s.xn s.xc,X e.bt,Z s.ma s.mn s.mc,Z s.aa s.an s.ac] 68)).alloc (M #[Z O 0 0,Z O 0 0,Z O 0 0,Z O 0 0,Z O 0 0,Z O 0 0,Z O 0 0,X F',Z O 0 0,Z O 0 0] 68)=W1 at*;obtain⟨⟨x0,x1,x2,x3,x4,x5,x6,x7,x8,x9⟩,_⟩:=jK Hp;refine R0 (fun W'=>W'.cell? ⟨w.heap.size,0,O⟩=Y (Z s.ba s.bn s.bc)/\W'.cell? ⟨w.heap.size,1,O⟩=Y (Z s.la s.ln s.lc)/\W'.cell? ⟨w.heap.size,2,O⟩=Y (Z s.ka s.kn s.kc)/\W'.cell? ⟨w.heap.size,6,O⟩=Y (Z s.xa s.xn s.xc)/\W'.cell? ⟨w.heap.size,7,O⟩=Y (X e.bt)/\W'.cell? ⟨w.heap.size,8,O⟩=Y (Z s.ma s.mn s.mc)/\Below W1.heap.size W1 W') (⟨x0,x1,x2,x6,x7,x8,u'.drew⟩) (fun hH=>?_);refine R5 1 2 4 5 7 ?_;refine R5 8 11 12 14 15 ?_;refine R2 17 18 ?_;refine vQ (d:=cpD) (E:=cpE) (z:=22) (pre:=cpP) (R:=CpR s e) (Bs:=fun T W=>Below W1.heap.size W1 W/\∀x,x<W1.heap.size->T x=cpT (w.heap.size+1) x) aZ0 cH6 (by kernel_rfl) (by kernel_rfl) (by kernel_rfl) (by kernel_rfl) (by kernel_rfl) (by kernel_rfl) (by kernel_rfl) (Nat.le_of_ble_eq_true (by kernel_rfl)) (CpR.mono s e) ?bs ?step ?last (cpT (w.heap.size+1)) ?init;case init=>exact⟨u'.drew,fun _ _=>rfl⟩
 case bs=>intro T W hB;exact⟨aC hB.1 x0,aC hB.1 x1,aC hB.1 x2,aC hB.1 x6,aC hB.1 x7,aC hB.1 x8,hB.1⟩
 case step=>
  intro i hi vs T W hB hp;unfold cpE at hi;simp only[List.mem_cons,List.not_mem_nil,or_false]at hi;rcases hi with rfl|rfl|rfl|rfl|rfl|rfl|rfl|rfl|rfl|rfl
  .refine wpOp_step rfl (fun K hK=>?_);go_simp;exact hK _ _ ⟨_,mrk T W.heap.size 0,rfl,Empt.new W T 0 86,fun k=>bJ (q') T 0 k,by simp,hB.1.alloc hB.1.size _,fun x hx=>by unfold mrk;rw[if_pos (by have:=hB.1.size;omega)];exact hB.2 x hx⟩
  .obtain⟨g,hv,hg,hT⟩:=hp 0 (by simp[cpP]);refine wpOp_step rfl (fun K hK=>?_);refine vJ dI3 (.tmp 7) (.tmp 9) rfl rfl g s.ba s.bn s.bc (rcells e.base) ((cU7 (i:=0) (by kernel_rfl) (by kernel_rfl)).trans hv) ((dY cpD vs 9 cpE _ (by kernel_rfl)).trans rfl) (h.base.below (kW.trans (hB.1.mono kW.size))) (by omega) ?_;intro a' c' W2 hb ho;have hO:=Empt.app hg hT h.base.1 hb ho;exact hK _ _ ⟨_,mrk T W.heap.size 0,rfl,⟨a',c',rfl,bN4 hO⟩,fun k=>bJ hb T 0 k,hb.size,⟨hB.1.trans (hb.mono hB.1.size),fun x hx=>by unfold mrk;rw[if_pos (by have:=hB.1.size;omega)];exact hB.2 x hx⟩⟩
  .refine wpOp_step rfl (fun K hK=>?_);refine tF (x:=.tmp 12) rfl rfl ((dY cpD vs 12 cpE _ (by kernel_rfl)).trans rfl) (by go_simp) ?_;refine(oU s.la s.ln s.lc e.lv _ (h.lv.below (kW.trans (hB.1.mono kW.size))) h.n2 hne).mono ?_;rintro r W2⟨a',c',rfl,ho,hb⟩;exact⟨_,rfl,hK _ _ ⟨_,mrk T W.heap.size 0,rfl,⟨a',c',rfl,OwnLv.seen ho hlm (jM T W.heap.size)⟩,fun k=>bJ hb T 0 k,hb.size,⟨hB.1.trans (hb.mono hB.1.size),fun x hx=>by unfold mrk;rw[if_pos (by have:=hB.1.size;omega)];exact hB.2 x hx⟩⟩⟩
  .refine wpOp_step rfl (fun K hK=>?_);refine tF (x:=.tmp 15) rfl rfl ((dY cpD vs 15 cpE _ (by kernel_rfl)).trans rfl) (by go_simp) ?_;refine(xQ s.ka s.kn s.kc e.lk _ (h.lk.below (kW.trans (hB.1.mono kW.size))) h.n3).mono ?_;rintro r W2⟨o',c',rfl,⟨vs',ho⟩,hb⟩;exact⟨_,rfl,hK _ _ ⟨_,mrk T W.heap.size 0,rfl,⟨_,c',rfl,OwnK.seen ho hkm (jM T W.heap.size)⟩,fun k=>bJ hb T 0 k,hb.size,⟨hB.1.trans (hb.mono hB.1.size),fun x hx=>by unfold mrk;rw[if_pos (by have:=hB.1.size;omega)];exact hB.2 x hx⟩⟩⟩
  .refine wpOp_step rfl (fun K hK=>?_);go_simp;exact hK _ _ ⟨_,mrk T W.heap.size 0,rfl,Empt.new W T 0 265,fun k=>bJ (q') T 0 k,by simp,hB.1.alloc hB.1.size _,fun x hx=>by unfold mrk;rw[if_pos (by have:=hB.1.size;omega)];exact hB.2 x hx⟩
  .obtain⟨g,hv,hg,hT⟩:=hp 10 (by simp[cpP]);refine wpOp_step rfl (fun K hK=>?_);refine vJ dG1 (.tmp 17) (.tmp 19) rfl rfl g s.xa s.xn s.xc (hcells e.ix) ((cU7 (i:=10) (by kernel_rfl) (by kernel_rfl)).trans hv) ((dY cpD vs 19 cpE _ (by kernel_rfl)).trans rfl) (h.ix.below (kW.trans (hB.1.mono kW.size))) (by omega) ?_;intro a' c' W2 hb ho;have hO:=Empt.app hg hT h.ix.1 hb ho;exact hK _ _ ⟨_,mrk T W.heap.size 0,rfl,⟨a',c',rfl,bN4 hO⟩,fun k=>bJ hb T 0 k,hb.size,⟨hB.1.trans (hb.mono hB.1.size),fun x hx=>by unfold mrk;rw[if_pos (by have:=hB.1.size;omega)];exact hB.2 x hx⟩⟩
  .refine wpOp_step rfl (fun K hK=>?_);go_simp;exact hK _ _ ⟨_,mrk T W.heap.size 6,rfl,Empt.new W T 6 2,fun k=>bJ (q') T 6 k,by simp,hB.1.alloc hB.1.size _,fun x hx=>by unfold mrk;rw[if_pos (by have:=hB.1.size;omega)];exact hB.2 x hx⟩
  .obtain⟨g,hv,hg,hT⟩:=hp 16 (by simp[cpP]);refine wpOp_step rfl (fun K hK=>?_);refine vJ uG (.tmp 23) (.tmp 25) rfl rfl g s.ma s.mn s.mc (icells e.cm) ((cU7 (i:=16) (by kernel_rfl) (by kernel_rfl)).trans hv) ((dY cpD vs 25 cpE _ (by kernel_rfl)).trans rfl) (h.cm.below (kW.trans (hB.1.mono kW.size))) (by omega) ?_;intro a' c' W2 hb ho;have hO:=Empt.app hg hT h.cm.1 hb ho;exact hK _ _ ⟨_,mrk T W.heap.size 6,rfl,⟨a',c',rfl,hO⟩,fun k=>bJ hb T 6 k,hb.size,⟨hB.1.trans (hb.mono hB.1.size),fun x hx=>by unfold mrk;rw[if_pos (by have:=hB.1.size;omega)];exact hB.2 x hx⟩⟩
  .obtain⟨a1,c1,e1,k1⟩:=hp 3 (by simp[cpP]);obtain⟨a2,c2,e2,k2⟩:=hp 6 (by simp[cpP]);obtain⟨a3,c3,e3,k3⟩:=hp 9 (by simp[cpP]);obtain⟨a4,c4,e4,k4⟩:=hp 13 (by simp[cpP]);obtain⟨a5,c5,e5,k5⟩:=hp 19 (by simp[cpP]);refine wpOp_step rfl (fun K hK=>?_);refine vK (v:=U #[Z a1 s.bn c1,Z a2 s.ln c2,Z a3 s.kn c3,Z O 0 0,Z O 0 0,Z O 0 0,Z a4 s.xn c4,X e.bt,Z a5 s.mn c5,Z O 0 0]) (vs:=vs) (d:=cpD) (L:=cpE) (K:=K) ?_ ?_ ?_ ?_ ?_ ?_
   .exact aZ0
   .exact cH6
   .kernel_rfl
   .rfl
   .intro ev h1 h2;have s1:ev (.tmp 10)=_:=(h1 3 (by kernel_rfl)).trans e1;have s2:ev (.tmp 13)=_:=(h1 6 (by kernel_rfl)).trans e2;have s3:ev (.tmp 16)=_:=(h1 9 (by kernel_rfl)).trans e3;have s4:ev (.tmp 20)=_:=(h1 13 (by kernel_rfl)).trans e4;have s5:ev (.tmp 26)=_:=(h1 19 (by kernel_rfl)).trans e5;have s6:ev (.tmp 22)=X e.bt:=(h2 22 (by kernel_rfl)).trans rfl;clear h1 h2;go_simp
   .exact hK _ _ ⟨_,T,rfl,⟨a1,c1,a2,c2,a3,c3,a4,c4,a5,c5,rfl,k1,k2,k3,k4,k5⟩,fun k=>Kp.refl k T W,z',hB⟩
  .refine wpOp_step rfl (fun K hK=>?_);go_simp;exact hK _ _ ⟨_,mrk T W.heap.size 1,rfl,⟨W.heap.size,rfl,aO rfl,by unfold mrk;rw[if_neg (by omega)]⟩,fun k=>bJ (q') T 1 k,by simp,hB.1.alloc hB.1.size _,fun x hx=>by unfold mrk;rw[if_pos (by have:=hB.1.size;omega)];exact hB.2 x hx⟩
 case last=>
  intro vs T W hB hR K0 hK0;obtain⟨a1,c1,a2,c2,a3,c3,a4,c4,a5,c5,ev,k1,k2,k3,k4,k5⟩:=hR 20 (by simp[cpE]);obtain⟨g,eg,hg,hTg⟩:=hR 21 (by simp[cpE]);clear hR;obtain⟨⟨y0,y1,y2,y3,y4,y5,y6,y7,y8,y9⟩,⟨f0,f1,f2,f3,f4,f5,f6,f7,f8,f9⟩⟩:=jK hg;have hgl:W1.heap.size<=g:=by
   rcases Nat.lt_or_ge g W1.heap.size with hlt|hge
   .have:=hB.2 g hlt;rcases cU4 (w.heap.size+1) g with h1|h1<;>omega
   .exact hge
  have hput:=bO1 (Z a1 s.bn c1) (Z a2 s.ln c2) (Z a3 s.kn c3) (Z O 0 0) (Z O 0 0) (Z O 0 0) (Z a4 s.xn c4) (X e.bt) (Z a5 s.mn c5) (Z O 0 0) hg;have hg2:=hput.1;have hgr:=hput.2;clear hput;refine tI ⟨O,.store 68 (.tmp 3) (.tmp 27),_,_,_,O⟩ (((((((((((W.setCell ⟨g,0,O⟩ (Z a1 s.bn c1)).setCell ⟨g,1,O⟩ (Z a2 s.ln c2)).setCell ⟨g,2,O⟩ (Z a3 s.kn c3)).setCell ⟨g,3,O⟩ (Z O 0 0)).setCell ⟨g,4,O⟩ (Z O 0 0)).setCell ⟨g,5,O⟩ (Z O 0 0)).setCell ⟨g,6,O⟩ (Z a4 s.xn c4)).setCell ⟨g,7,O⟩ (X e.bt)).setCell ⟨g,8,O⟩ (Z a5 s.mn c5)).setCell ⟨g,9,O⟩ (Z O 0 0))) (by rfl) aZ0 cH6 (by kernel_rfl) rfl ?_ ?_
  .intro ev' h1 h2;have s1:ev' (.tmp 3)=_:=(h1 21 (by kernel_rfl)).trans eg;have s2:ev' (.tmp 27)=_:=(h1 20 (by kernel_rfl)).trans ev;clear h1 h2;go_simp
  .have hE:=EgO.bare (w0:=w) (s:=s) (e:=e) (a1:=a1) (a2:=a2) (a3:=a3) (a4:=a4) (a5:=a5) (c1:=c1) (c2:=c2) (c3:=c3) (c4:=c4) (c5:=c5) h k1 k2 k3 k4 k5;replace hE:=hE.kept (T':=T) (fun k h1 _=>iW hgr hTg h1);have hB2:Below W1.heap.size W1 ((((((((((W.setCell ⟨g,0,O⟩ (Z a1 s.bn c1)).setCell ⟨g,1,O⟩ (Z a2 s.ln c2)).setCell ⟨g,2,O⟩ (Z a3 s.kn c3)).setCell ⟨g,3,O⟩ (Z O 0 0)).setCell ⟨g,4,O⟩ (Z O 0 0)).setCell ⟨g,5,O⟩ (Z O 0 0)).setCell ⟨g,6,O⟩ (Z a4 s.xn c4)).setCell ⟨g,7,O⟩ (X e.bt)).setCell ⟨g,8,O⟩ (Z a5 s.mn c5)).setCell ⟨g,9,O⟩ (Z O 0 0)):=cJ hB.1 hgr (fun k hk=>by cases hk;exact hgl) hB.1.size;generalize((((((((((W.setCell ⟨g,0,O⟩ (Z a1 s.bn c1)).setCell ⟨g,1,O⟩ (Z a2 s.ln c2)).setCell ⟨g,2,O⟩ (Z a3 s.kn c3)).setCell ⟨g,3,O⟩ (Z O 0 0)).setCell ⟨g,4,O⟩ (Z O 0 0)).setCell ⟨g,5,O⟩ (Z O 0 0)).setCell ⟨g,6,O⟩ (Z a4 s.xn c4)).setCell ⟨g,7,O⟩ (X e.bt)).setCell ⟨g,8,O⟩ (Z a5 s.mn c5)).setCell ⟨g,9,O⟩ (Z O 0 0))=W2 at*;clear hgr hg k1 k2 k3 k4 k5 y0 y1 y2 y3 y4 y5 y6 y7 y8 y9 f0 f1 f2 f3 f4 f5 f6 f7 f8 f9;refine(hK0 _ _ ⟨aC hB2 x0,aC hB2 x1,aC hB2 x2,aC hB2 x6,aC hB2 x7,aC hB2 x8,hB2⟩ (NoPanic.normal ?_));dsimp only[dV,cpE,List.foldl];simp only[Act.put,cpD,List.setIfInBounds_toArray,List.set_cons_zero,List.set_cons_succ];rw[ev,eg];go_wp2_with fail
   refine R0 (fun W'=>W'.cell? ⟨w.heap.size,4,O⟩=Y (Z s.sa s.sn s.sc)/\W'.cell? ⟨w.heap.size,5,O⟩=Y (Z s.oa s.on s.oc)/\Below W1.heap.size W1 W') (⟨(aC hB2 x4:),(aC hB2 x5:),hB2.drew⟩) (fun hH=>?_);refine R5 1 2 3 6 7 ?_;refine R1 8 ?_;refine vQ (d:=cqD) (E:=cqE) (z:=12) (pre:=cqP) (R:=CqR s e g) (Bs:=fun T W=>Below W1.heap.size W1 W/\(∀x,x<W1.heap.size->T x=cpT (w.heap.size+1) x)/\EgO W 0 T (⟨a1,s.bn,c1,a2,s.ln,c2,a3,s.kn,c3,O,0,0,O,0,0,O,0,0,a4,s.xn,c4,a5,s.mn,c5,O,0,0⟩:EgS) {e with tx:=[],su:=[],lo:=[],ac:=[]}/\W.heap[g]? =Y (M #[Z a1 s.bn c1,Z a2 s.ln c2,Z a3 s.kn c3,Z O 0 0,Z O 0 0,Z O 0 0,Z a4 s.xn c4,X e.bt,Z a5 s.mn c5,Z O 0 0] 68 (0,0))/\T g=1) aI9 bI3 (by kernel_rfl) (by kernel_rfl) (by kernel_rfl) (by kernel_rfl) (by kernel_rfl) (by kernel_rfl) (by kernel_rfl) (Nat.le_of_ble_eq_true (by kernel_rfl)) (CqR.mono s e g) ?bs2 ?step2 ?last2 T ?init2;case init2=>exact⟨hB2.drew,hB.2,hE.kept (fun k _ _=>jN),hg2,hTg⟩
   case bs2=>intro T W hB;exact⟨aC hB.1 x4,aC hB.1 x5,hB.1⟩
   case step2=>
    intro i hi vs T W hB hp;unfold cqE at hi;simp only[List.mem_cons,List.not_mem_nil,or_false]at hi;rcases hi with rfl|rfl|rfl|rfl|rfl|rfl
    .refine wpOp_step rfl (fun K hK=>?_);have hb:=f' W (M #[] 5);go_simp;exact hK _ _ ⟨_,mrk T W.heap.size 4,rfl,Empt.new W T 4 5,fun k=>bJ hb T 4 k,hb.size,(have hkk:=fun k=>bJ hb T 4 k;⟨hB.1.trans (hb.mono hB.1.size),fun x hx=>by unfold mrk;rw[if_pos (by have:=hB.1.size;omega)];exact hB.2.1 x hx,hB.2.2.1.kept (fun k _ _=>hkk k),aY hB.2.2.2.1 hB.2.2.2.2 (hkk 1)⟩)⟩
    .obtain⟨g',hv,hg',hT⟩:=hp 0 (by simp[cqP]);refine wpOp_step rfl (fun K hK=>?_);refine vJ aA0 (.tmp 28) (.tmp 31) rfl rfl g' s.sa s.sn s.sc (bts e.su) ((dF1 (i:=0) (by kernel_rfl) (by kernel_rfl)).trans hv) ((dY cqD vs 31 cqE _ (by kernel_rfl)).trans rfl) (hsu _ (kW.trans (hB.1.mono kW.size))) (by omega) ?_;intro a' c' W2 hb ho;have hO:=Empt.app hg' hT (hsu _ (kW.trans (hB.1.mono kW.size))).1 hb ho;exact hK _ _ ⟨_,mrk T W.heap.size 4,rfl,⟨a',c',rfl,hO⟩,fun k=>bJ hb T 4 k,hb.size,(have hkk:=fun k=>bJ hb T 4 k;⟨hB.1.trans (hb.mono hB.1.size),fun x hx=>by unfold mrk;rw[if_pos (by have:=hB.1.size;omega)];exact hB.2.1 x hx,hB.2.2.1.kept (fun k _ _=>hkk k),aY hB.2.2.2.1 hB.2.2.2.2 (hkk 1)⟩)⟩
    .refine wpOp_step rfl (fun K hK=>?_);have hb:=f' W (M #[] 5);go_simp;exact hK _ _ ⟨_,mrk T W.heap.size 5,rfl,Empt.new W T 5 5,fun k=>bJ hb T 5 k,hb.size,(have hkk:=fun k=>bJ hb T 5 k;⟨hB.1.trans (hb.mono hB.1.size),fun x hx=>by unfold mrk;rw[if_pos (by have:=hB.1.size;omega)];exact hB.2.1 x hx,hB.2.2.1.kept (fun k _ _=>hkk k),aY hB.2.2.2.1 hB.2.2.2.2 (hkk 1)⟩)⟩
    .obtain⟨g',hv,hg',hT⟩:=hp 5 (by simp[cqP]);refine wpOp_step rfl (fun K hK=>?_);refine vJ aA0 (.tmp 33) (.tmp 36) rfl rfl g' s.oa s.on s.oc (bts e.lo) ((dF1 (i:=5) (by kernel_rfl) (by kernel_rfl)).trans hv) ((dY cqD vs 36 cqE _ (by kernel_rfl)).trans rfl) (hlo _ (kW.trans (hB.1.mono kW.size))) (by omega) ?_;intro a' c' W2 hb ho;have hO:=Empt.app hg' hT (hlo _ (kW.trans (hB.1.mono kW.size))).1 hb ho;exact hK _ _ ⟨_,mrk T W.heap.size 5,rfl,⟨a',c',rfl,hO⟩,fun k=>bJ hb T 5 k,hb.size,(have hkk:=fun k=>bJ hb T 5 k;⟨hB.1.trans (hb.mono hB.1.size),fun x hx=>by unfold mrk;rw[if_pos (by have:=hB.1.size;omega)];exact hB.2.1 x hx,hB.2.2.1.kept (fun k _ _=>hkk k),aY hB.2.2.2.1 hB.2.2.2.2 (hkk 1)⟩)⟩
    .obtain⟨b1,d1,e1,m1⟩:=hp 4 (by simp[cqP]);obtain⟨b2,d2,e2,m2⟩:=hp 9 (by simp[cqP]);refine wpOp_step rfl (fun K hK=>?_);refine vK (v:=U #[Z b1 s.sn d1,Z b2 s.on d2]) (vs:=vs) (d:=cqD) (L:=cqE) (K:=K) ?_ ?_ ?_ ?_ ?_ ?_
     .exact aI9
     .exact bI3
     .kernel_rfl
     .rfl
     .intro ev h1 h2;have s1:ev (.tmp 32)=_:=(h1 4 (by kernel_rfl)).trans e1;have s2:ev (.tmp 37)=_:=(h1 9 (by kernel_rfl)).trans e2;clear h1 h2;go_simp
     .exact hK _ _ ⟨_,T,rfl,⟨b1,d1,b2,d2,rfl,m1,m2⟩,fun k=>Kp.refl k T W,z',hB⟩
    .refine kD ⟨Y 39,.fieldAddr 68 (.tmp 3) 4,_,_,_,O⟩ (.pointer (Y ⟨g,4,O⟩)) (by rfl) aI9 bI3 (by kernel_rfl) rfl ?_ ?_
     .intro ev h1 h2;have s1:ev (.tmp 3)= .pointer (Y ⟨g,0,O⟩):=(h2 3 (by kernel_rfl)).trans rfl;clear h1 h2;go_simp
     .exact⟨_,T,rfl,rfl,fun k=>Kp.refl k T W,z',hB⟩
   case last2=>
    intro vs2 T W hB hR K0 hK0;obtain⟨b1,d1,b2,d2,ev2,m1,m2⟩:=hR 10 (by simp[cqE]);have eg2:vs2 11= .pointer (Y ⟨g,4,O⟩):=hR 11 (by simp[cqE]);clear hR;obtain⟨hB1,hBt,hE,hg,hTg⟩:=hB;obtain⟨⟨y0,y1,y2,y3,y4,y5,y6,y7,y8,y9⟩,⟨f0,f1,f2,f3,f4,f5,f6,f7,f8,f9⟩⟩:=jK hg;refine tI ⟨O,.store 65 (.tmp 39) (.tmp 38),_,_,_,O⟩ ((W.setCell ⟨g,4,O⟩ (Z b1 s.sn d1)).setCell ⟨g,5,O⟩ (Z b2 s.on d2)) (by rfl) aI9 bI3 (by kernel_rfl) rfl ?_ ?_
    .intro ev' h1 h2;have s1:ev' (.tmp 39)=_:=(h1 11 (by kernel_rfl)).trans eg2;have s2:ev' (.tmp 38)=_:=(h1 10 (by kernel_rfl)).trans ev2;clear h1 h2;go_simp
    .have h4:=heap_setCell_same W g 4 _ _ (Z b1 s.sn d1) hg;have h5:=heap_setCell_same _ g 5 _ _ (Z b2 s.on d2) h4;have hgr:W.grownBy ((W.setCell ⟨g,4,O⟩ (Z b1 s.sn d1)).setCell ⟨g,5,O⟩ (Z b2 s.on d2)) (Y g):=cN nI;have hE1:EgO W 0 T (⟨a1,s.bn,c1,a2,s.ln,c2,a3,s.kn,c3,O,0,0,b1,s.sn,d1,b2,s.on,d2,a4,s.xn,c4,a5,s.mn,c5,O,0,0⟩:EgS) {e with tx:=[],ac:=[]}:=(hE.newSu (fun k _ _ _=>Kp.refl k T W) m1 h.bsu h.n5).newLo (fun k _ _ _=>Kp.refl k T W) m2 h.blo h.n6;have hE2:=hE1.kept (T':=T) (fun k h1 _=>iW hgr hTg h1);have hB3:Below W1.heap.size W1 ((W.setCell ⟨g,4,O⟩ (Z b1 s.sn d1)).setCell ⟨g,5,O⟩ (Z b2 s.on d2)):=cJ hB1 hgr (fun k hk=>by cases hk;exact hgl) hB1.size;have hI:CpI W1 (w.heap.size+1) g (⟨a1,s.bn,c1,a2,s.ln,c2,a3,s.kn,c3,O,0,0,b1,s.sn,d1,b2,s.on,d2,a4,s.xn,c4,a5,s.mn,c5,O,0,0⟩:EgS) {e with tx:=[],ac:=[]} T ((W.setCell ⟨g,4,O⟩ (Z b1 s.sn d1)).setCell ⟨g,5,O⟩ (Z b2 s.on d2)):=⟨hB3,hBt,hE2,h5,hTg⟩
     generalize(W.setCell ⟨g,4,O⟩ (Z b1 s.sn d1)).setCell ⟨g,5,O⟩ (Z b2 s.on d2)=W3 at*;clear hgr hg hE hE1 hE2 h4 h5 m1 m2 hB1 y0 y1 y2 y3 y4 y5 y6 y7 y8 y9 f0 f1 f2 f3 f4 f5 f6 f7 f8 f9;refine hK0 _ _ ⟨aC hB3 x4,aC hB3 x5,hB3⟩ (NoPanic.normal ?_);dsimp only[dV,cqE,List.foldl];simp only[Act.put,cqD,List.setIfInBounds_toArray,List.set_cons_zero,List.set_cons_succ];rw[ev2,eg2];clear ev eg ev2 eg2 hK0;generalize hS1:(⟨a1,s.bn,c1,a2,s.ln,c2,a3,s.kn,c3,O,0,0,b1,s.sn,d1,b2,s.on,d2,a4,s.xn,c4,a5,s.mn,c5,O,0,0⟩:EgS)=S1 at*;go_wp2;go_loopw [4] (fun i wr=>∃(k:Nat) (T:Nat->Nat) (a:Option Addr) (c:Nat),k<=s.tn/\i=I J k/\CpI W1 (w.heap.size+1) g {S1 with ta:=a,tn:=k,tc:=c} {e with tx:=e.tx.take k,ac:=[]} T wr) (fun i _=>s.tn-(intOf i).toNat)
     case atStart=>exact⟨0,T,O,0,Nat.zero_le _,rfl,by rw[<-hS1]at hI⊢;exact hI⟩
     case round=>
      obtain⟨k,T,a,c,hk,rfl,hI⟩:=hrel;have x3:=aC hI.bel x3;have hbl:=aD x3;by_cases hlt:k<s.tn
      .obtain⟨g0,off,au,nu,cu,hta,t0,t1,t2,t3,t4,t5,t6,t7,hU,hnu⟩:=(h.tx.below (kW.trans (hI.bel.mono kW.size))).txn hlt;rw[hta]at x3;have HTA:=hid hta;clear hta;have hgl0:=aD t0;have HTk:=hid (bE6 e.tx k (by have:=h.tx.len.out;omega));generalize aQ e.tx k=tt at t0 t1 t2 t3 t4 t5 t6 t7 hU HTk;obtain⟨tid,tsy,tst,tun,twk,twa,twb,twv⟩:=tt;simp only at t0 t1 t2 t3 t4 t5 t6 t7 hU;have HUn:=hU.bflen;have hUl:(bfcells tun).length=nu*3:=hU.1;have k5:Below wr.heap.size wr ((wr.alloc (M #[I J tid,X tsy,I J tst,Z au nu cu,I J twk,I J twa,I J twb,I J twv] 155)).alloc (M #[] 263)):=(q').alloc (by simp) _;have P5:((wr.alloc (M #[I J tid,X tsy,I J tst,Z au nu cu,I J twk,I J twa,I J twb,I J twv] 155)).alloc (M #[] 263)).heap[wr.heap.size]? =Y (M #[I J tid,X tsy,I J tst,Z au nu cu,I J twk,I J twa,I J twb,I J twv] 155 (0,0)):=(dJ (by simp)).trans (aO rfl);have P6:((wr.alloc (M #[I J tid,X tsy,I J tst,Z au nu cu,I J twk,I J twa,I J twb,I J twv] 155)).alloc (M #[] 263)).heap[wr.heap.size+1]? =Y (M #[] 263 (0,0)):=aO (by simp);have hUb:=hU.below k5;have hgw:g<wr.heap.size:=(Array.getElem?_eq_some_iff.1 hI.box).1;have hgne:¬wr.heap.size=g:=by omega
       have hgne':¬g=wr.heap.size:=by omega
       go_wp2_with(at_builtin;first
        |(refine cX5 dE9 (.tmp 52) (.tmp 54) ?_ ?_ (wr.heap.size+1) au nu cu (bfcells tun) ?_ ?_ hUb (by omega) ?_;exact rfl;exact rfl;exact rfl;exact rfl;intro a6 c6 W6 hb6 ho6
          have hO6:=aT2 P6 z' hUl ho6;obtain⟨⟨q0,q1,q2,q3,q4,q5,q6,q7⟩,⟨r0,r1,r2,r3,r4,r5,r6,r7⟩⟩:=bV5 (aR hb6 P5);have hI8:=dB6 (t:=⟨tid,tsy,tst,tun,twk,twa,twb,twv⟩) (C9:=#[I J tid,X tsy,I J tst,Z a6 nu c6,I J twk,I J twa,I J twb,I J twv]) hI hb6 hO6 HUn;have z9:W6.cell? ⟨g,3,O⟩=Y (Z a k c):=cell_of_row _ g 3 _ _ _ (cU6 hI k5 hb6);have e9:=frozen_of_row _ g 3 _ _ (cU6 hI k5 hb6);obtain⟨T8,hI8,hx8⟩:=hI8;obtain⟨us,hTx⟩:=hI8.own.tx;obtain⟨cs,hr,hcs⟩:=hTx.row;have HCS:=hid hcs;have HIA:=hid hI;clear hcs;have hN:=cJ5 (W6.setCell ⟨wr.heap.size,3,O⟩ (Z a6 nu c6)) ⟨tid,tsy,tst,tun,twk,twa,twb,twv⟩ (Z a6 nu c6);have hsz:(W6.setCell ⟨wr.heap.size,3,O⟩ (Z a6 nu c6)).heap.size=W6.heap.size:=by simp
          rw[hsz]at hN;simp only at hN;clear ho6 P5 P6 hUb hO6)
        |(refine aD8 dF0 (.tmp 58) (.tmp 60) ?_ ?_ 0 (Z a k c) k cs (Y ⟨W6.heap.size,0,O⟩) 1 1 (txc ⟨tid,tsy,tst,tun,twk,twa,twb,twv⟩ (Z a6 nu c6)) ?_ ?_ hr.1 hN (cK4 _ _ _ _) (by omega) (Nat.zero_le _) ?_;exact rfl;exact rfl;exact rfl;exact rfl;intro a9 c9 W9 o9 gr9 at9
          have hI9:=CpI.txn hI8 hTx hr HCS.out hx8 (by show tun.length<=1048576;have:=HUn.out;omega) (by show k+1<=1048576;omega) o9 gr9 at9;have hb9:=(aY hI8.box hI8.tag (dS gr9 (fun g hg=>hr.2 g hg) (by decide:1≠2))).1;have y9:=cell_of_row _ g 3 _ _ _ hb9;have w9:=frozen_of_row _ g 3 _ _ hb9;clear hb9 hI8 hTx hr HCS hx8 o9 gr9 at9 hN))
       go_roundw;case rel=>exact⟨k+1,_,a9,c9,by omega,by go_num,by rw[HTk.out];exact hI9⟩
       case measure=>simp[intOf];omega
      .obtain rfl:k=s.tn:=by omega
       have hI2:CpI W1 (w.heap.size+1) g {S1 with ta:=a,tn:=s.tn,tc:=c} {e with ac:=[]} T wr:=by have h1:=hI;rw[h.tx.len.out,List.take_length]at h1;rw[h.tx.len.out];exact h1
       clear hI;go_wp2;go_loopw [6] (fun i wr=>∃(k:Nat) (T:Nat->Nat) (a':Option Addr) (c':Nat),k<=s.an/\i=I J k/\CpI W1 (w.heap.size+1) g {S1 with ta:=a,tn:=s.tn,tc:=c,aa:=a',an:=k,ac:=c'} {e with ac:=e.ac.take k} T wr) (fun i _=>s.an-(intOf i).toNat)
       case atStart=>exact⟨0,T,O,0,Nat.zero_le _,rfl,by rw[<-hS1]at hI2⊢;exact hI2⟩
       case round=>
        obtain⟨k,T,a',c',hk,rfl,hI⟩:=hrel;have x9w:=aC hI.bel x9;have hbl:=aD x9w;by_cases hlt:k<s.an
        .obtain⟨g1,of1,an,nn,cn,haa,b0,b1,b2,b3,b4,b5,hA0,_⟩:=h.ac.act hlt;rw[haa]at x9 x9w;have HAA:=hid haa;clear haa;have HAk:=hid (aY2 e.ac k (by have:=h.ac.len.out;omega));have hAn:nn<=1048576:=by have h1:=hA0.ilen;have h2:=h.n10 k;have:=h1.out;omega
         have HAl:=hA0.ilen;generalize eK e.ac k=tt at b0 b1 b2 b3 b4 b5 hA0 HAk HAl;obtain⟨atx,ak,ap,aq,av,aan⟩:=tt;simp only at b0 b1 b2 b3 b4 b5 hA0 HAl;have hA:=fun W (hW:Below w.heap.size w W)=>hA0.below hW;have b0:=aC kW b0;have b1:=aC kW b1;have b2:=aC kW b2;have b3:=aC kW b3;have b4:=aC kW b4;have b5:=aC kW b5;go_wp2_with fail
         refine R0 (fun W'=>W'.cell? ⟨w.heap.size,9,O⟩=Y (Z (Y ⟨g1,of1,O⟩) s.an s.ac)/\W'.cell? ⟨g1,of1+k*6,O⟩=Y (I J atx)/\W'.cell? ⟨g1,of1+k*6+1,O⟩=Y (I J ak)/\W'.cell? ⟨g1,of1+k*6+2,O⟩=Y (I J ap)/\W'.cell? ⟨g1,of1+k*6+3,O⟩=Y (I J aq)/\W'.cell? ⟨g1,of1+k*6+4,O⟩=Y (I J av)/\W'.cell? ⟨g1,of1+k*6+5,O⟩=Y (Z an nn cn)/\Below W1.heap.size W1 W') (⟨x9w,(aC hI.bel b0:),(aC hI.bel b1:),(aC hI.bel b2:),(aC hI.bel b3:),(aC hI.bel b4:),(aC hI.bel b5:),hI.bel.drew⟩) (fun hH=>?_);refine R5 0 2 3 4 5 ?_;refine R1 6 ?_;refine rJ (d:=cwD) (E:=cwE) (L1:=#[A',A',A',A',A',A',A',A',A',F',F',F']) (fuel1:=3) (pre:=cwP) (R:=CwR a' k c' ⟨atx,ak,ap,aq,av,aan⟩ nn) (Bs:=fun T W=>CpI W1 (w.heap.size+1) g {S1 with ta:=a,tn:=s.tn,tc:=c,aa:=a',an:=k,ac:=c'} {e with ac:=e.ac.take k} T W) bV9 cU8 (by kernel_rfl) (by kernel_rfl) (by kernel_rfl) (by kernel_rfl) (by kernel_rfl) (by kernel_rfl) (by kernel_rfl) (CwR.mono a' k c' ⟨atx,ak,ap,aq,av,aan⟩ nn) ?bs3 ?step3 ?last3 T ?init3;case init3=>exact⟨hI.bel.drew,hI.old,hI.own.kept (fun k _ _=>jN),hI.box,hI.tag⟩
         case bs3=>intro T W hB;exact⟨aC hB.bel x9,aC hB.bel b0,aC hB.bel b1,aC hB.bel b2,aC hB.bel b3,aC hB.bel b4,aC hB.bel b5,hB.bel⟩
         case step3=>
          intro i hi vs3 T W hB hp;unfold cwE at hi;simp only[List.mem_cons,List.not_mem_nil,or_false]at hi;rcases hi with rfl|rfl|rfl
          .have hl:W.cell? ⟨g,9,O⟩=Y (Z a' k c'):=cell_of_row _ g 9 _ _ _ hB.box;refine kD ⟨Y 71,.load 45 (.tmp 70),_,_,_,O⟩ (Z a' k c') (by rfl) bV9 cU8 (by kernel_rfl) rfl ?_ ?_
           .intro ev h1 h2;have s1:ev (.tmp 70)= .pointer (Y ⟨g,9,O⟩):=(h2 70 (by kernel_rfl)).trans rfl;clear h1 h2;go_simp
           .exact⟨_,T,rfl,rfl,fun k=>Kp.refl k T W,z',hB⟩
          .refine wpOp_step rfl (fun K hK=>?_);refine tF (x:=.tmp 76) rfl rfl ((dY cwD vs3 76 cwE _ (by kernel_rfl)).trans rfl) (by go_simp) ?_;refine(aQ5 atx ak ap aq av an nn cn aan _ (hA _ (kW.trans (hB.bel.mono kW.size))) hAn).mono ?_;rintro r W2⟨⟨a7,c7,rfl,ho⟩,hb⟩;exact⟨_,rfl,hK _ _ ⟨_,mrk T W.heap.size (2*k+11),rfl,⟨a7,c7,rfl,by rw[show(⟨atx,ak,ap,aq,av,aan⟩:Ac).an.length=nn from HAl.out.symm];exact OwnT.new ho (Nat.zero_le _)⟩,fun k'=>bJ hb T _ k',hb.size,hB.below hb _⟩⟩
          .obtain⟨a7,c7,e7,o7⟩:=hp 7 (by simp[cwP]);have hb:=f' W (M #[I J atx,I J ak,I J ap,I J aq,I J av,Z a7 nn c7] 56);refine vZ ⟨Y 78,.buildSlice 45 1 #[(0,.tmp 77)],_,_,_,O⟩ (Z (Y ⟨W.heap.size,0,O⟩) 1 1) (W.alloc (M #[I J atx,I J ak,I J ap,I J aq,I J av,Z a7 nn c7] 56)) (by rfl) bV9 cU8 (by kernel_rfl) rfl ?_ ?_
           .intro ev h1 h2;have s1:ev (.tmp 77)=_:=(h1 7 (by kernel_rfl)).trans e7;clear h1 h2;simp only at s1;go_simp
           .exact⟨_,mrk T W.heap.size 8,rfl,⟨a7,c7,W.heap.size,rfl,aO rfl,by unfold mrk;rw[if_neg (by omega)],o7.kept (bJ hb T 8 _)⟩,fun k'=>bJ hb T 8 k',hb.size,hB.below hb 8⟩
         case last3=>
          intro vs3 T W hB hR;have e1:vs3 1=Z a' k c':=hR 1 (by simp[cwE]);obtain⟨a7,c7,gb,e8,hgb,hTb,o7⟩:=hR 8 (by simp[cwE]);clear hR;obtain⟨us,hAc⟩:=hB.own.ac;obtain⟨cs,hr,hcs⟩:=hAc.row;have HCS:=hid hcs;clear hcs;have hN:=cM0 hgb;dsimp only[dV,cwE,List.foldl];simp only[Act.put,cwD,List.setIfInBounds_toArray,List.set_cons_zero,List.set_cons_succ];rw[e1,e8];refine R6 9 (fun K hK=>?_);refine lH aT1 (.tmp 71) (.tmp 78) rfl rfl 0 (Z a' k c') k cs (Y ⟨gb,0,O⟩) 1 1 (acc6 ⟨atx,ak,ap,aq,av,aan⟩ (Z a7 nn c7)) rfl rfl hr.1 hN (rI _ _ _ _) (by omega) (Nat.zero_le _) ?_;intro a9 c9 W9 o9 gr9 at9;have hI9:=CpI.act hB hAc hr HCS.out o7 (by show aan.length<=1048576;have:=HAl.out;omega) (by show k+1<=1048576;omega) o9 gr9 at9;have hb9:=(aY hB.box hB.tag (dS gr9 (fun g hg=>hr.2 g hg) (by decide:1≠7))).1;have hB9:Below W1.heap.size W1 W9:=cJ hB.bel gr9 (fun k hk=>hB.ge (by rw[hr.2 k hk];decide) (by rw[hr.2 k hk];decide)) hB.bel.size;have y9:=cell_of_row _ g 9 _ _ _ hb9;have w9:=frozen_of_row _ g 9 _ _ hb9;clear hb9 hAc hr HCS hN o9 gr9 at9;refine hK.out _ _ ?_ (fun hH=>?_)
          .exact⟨aC hB9 x9,aC hB9 b0,aC hB9 b1,aC hB9 b2,aC hB9 b3,aC hB9 b4,aC hB9 b5,hB9⟩
          clear hK K;refine J3 ?_;refine R1 10 ?_;refine R6 11 (fun K hK=>?_);go_simp;refine hK.out _ _ ?_ (fun hH=>?_)
          .exact⟨aC hI9.bel x9,aC hI9.bel b0,aC hI9.bel b1,aC hI9.bel b2,aC hI9.bel b3,aC hI9.bel b4,aC hI9.bel b5,hI9.bel⟩
          clear hK K;refine R7 ?_;go_wp2;go_roundw;case rel=>exact⟨k+1,_,a9,c9,by omega,by go_num,by rw[HAk.out];exact hI9⟩
          case measure=>simp[intOf];omega
        .obtain rfl:k=s.an:=by omega
         have hI3:CpI W1 (w.heap.size+1) g {S1 with ta:=a,tn:=s.tn,tc:=c,aa:=a',an:=s.an,ac:=c'} e T wr:=by have h1:=hI;rw[h.ac.len.out,List.take_length]at h1;rw[h.ac.len.out];exact h1
         clear hI;have Hq':wr.heap[w.heap.size+1]? =Y (M #[Z O 0 0,Z O 0 0,Z O 0 0,Z O 0 0,Z O 0 0,Z O 0 0,Z O 0 0,X F',Z O 0 0,Z O 0 0] 68 (0,0)):=aR hI3.bel Hq;obtain⟨⟨z0,z1,z2,z3,z4,z5,z6,z7,z8,z9⟩,⟨f0,f1,f2,f3,f4,f5,f6,f7,f8,f9⟩⟩:=jK Hq';obtain⟨⟨y0,y1,y2,y3,y4,y5,y6,y7,y8,y9⟩,_⟩:=jK (show wr.heap[g]? =Y (M #[Z S1.ba S1.bn S1.bc,Z S1.la S1.ln S1.lc,Z S1.ka S1.kn S1.kc,Z a s.tn c,Z S1.sa S1.sn S1.sc,Z S1.oa S1.on S1.oc,Z S1.xa S1.xn S1.xc,X e.bt,Z S1.ma S1.mn S1.mc,Z a' s.an c'] 68 (0,0))from hI3.box);go_wp2;have hput:=bO1 (Z S1.ba S1.bn S1.bc) (Z S1.la S1.ln S1.lc) (Z S1.ka S1.kn S1.kc) (Z a s.tn c) (Z S1.sa S1.sn S1.sc) (Z S1.oa S1.on S1.oc) (Z S1.xa S1.xn S1.xc) (X e.bt) (Z S1.ma S1.mn S1.mc) (Z a' s.an c') Hq';have hTq:T (w.heap.size+1)=8:=(hI3.old _ (by omega)).trans (cU5 _);refine bodyPost_ret (v:=U #[Z S1.ba S1.bn S1.bc,Z S1.la S1.ln S1.lc,Z S1.ka S1.kn S1.kc,Z a s.tn c,Z S1.sa S1.sn S1.sc,Z S1.oa S1.on S1.oc,Z S1.xa S1.xn S1.xc,X e.bt,Z S1.ma S1.mn S1.mc,Z a' s.an c']) (by simp[results,Tryz.results106,go_sem,z0,z1,z2,z3,z4,z5,z6,z7,z8,z9]) rfl ⟨⟨{S1 with ta:=a,tn:=s.tn,tc:=c,aa:=a',an:=s.an,ac:=c'},T,rfl,?_,?_⟩,?_⟩
         .exact hI3.own.kept (T':=T) (fun k _ h8=>iW hput.2 hTq h8)
         .intro x hx;rw[hI3.old x (by omega)];rfl
         .exact cJ (kW.trans (hI3.bel.mono kW.size)) hput.2 (fun k hk=>by cases hk;omega) (by have:=kW.size;have:=hI3.bel.size;omega)
namespace Ch
def Vals(S:Sl):Prop:=∀k v,S k=Y v->0<=v/\v<=9999
theorem Vals.set(h:Vals S)(k:Int)(ho:∀v,o=Y v->0<=v/\v<=9999):Vals (S.set k o):=by
 intro q v hv;simp only[Sl.set]at hv;split at hv
 .exact ho v hv
 .exact h q v hv
theorem aW6{b:Bool}{x:Int}(h:0<=x/\x<=9999):∀v,rT b x=Y v->0<=v/\v<=9999:=by
 intro v hv;cases b
 .simp[rT]at hv
 .simp[rT]at hv;omega
theorem cR9(h:∀r∈base,r.fault=0):∀(l:List Row),(∀r∈l,r∈base)->∀S,Vals S->Vals (l.foldl (fun S r=>S.set r.k (Y r.v)) S):=by
 intro l;induction l with
 |nil=>intro _ S hS;exact hS
 |cons a l ih=>intro hl S hS;refine ih (fun r hr=>hl r (List.mem_cons_of_mem _ hr)) _ (hS.set _ (fun v hv=>?_));have:=qG (h a (hl a List.mem_cons_self));unfold Row.fits at this;simp at hv;omega
theorem cB4(h:Vals S)(hr:r.Fit):Vals (rW S r):=by
 unfold rW;split
 .exact h.set _ (aW6 hr.nw)
 .exact h
theorem cQ5:∀(l:List Rec) (S:Sl),(∀r∈l,r.Fit)->Vals S->Vals (l.foldl rW S):=by
 intro l;induction l with
 |nil=>intro S _ h;exact h
 |cons a l ih=>intro S hl h;exact ih _ (fun r hr=>hl r (List.mem_cons_of_mem _ hr)) (cB4 h (hl a List.mem_cons_self))
theorem bU4{st:Bs}(h:Vals st.s)(hr:r.Fit):Vals (jA L st r).s:=by
 unfold jA;split
 .exact h
 .split
  .exact h
  .exact h.set _ (aW6 hr.ol)
theorem cL4:∀(l:List Rec) (st:Bs),(∀r∈l,r.Fit)->Vals st.s->Vals (cG L st l).s:=by
 intro l;induction l with
 |nil=>intro st _ h;exact h
 |cons a l ih=>intro st hl h;exact ih _ (fun r hr=>hl r (List.mem_cons_of_mem _ hr)) (bU4 h (hl a List.mem_cons_self))
theorem cH7(h:eR rs=0):∀r∈rs,r.Fit:=by intro r hr;obtain⟨i,hi,rfl⟩:=List.getElem_of_mem hr;have:=(pI h).2 i hi;exact Rec.fit (by simpa[List.getD,hi]using this)
theorem cV1(h:eR rs=0)(hb:dM base=0):Vals (tQ base rs).s:=by unfold tQ;refine cL4 _ _ (fun r hr=>cH7 h r (by simpa using hr)) ?_;simp only;unfold fG;refine cQ5 _ _ (fun r hr=>cH7 h r (List.mem_of_mem_take hr)) ?_;unfold fU;refine cR9 (base:=base) (fun r hr=>?_) _ (fun r hr=>List.mem_of_mem_take hr) _ (fun k v hv=>by simp at hv);obtain⟨i,hi,rfl⟩:=List.getElem_of_mem hr;have:=(kY hb).2.2 i hi;simpa[List.getD,hi]using this
theorem aO4(h:Vals S):∀r∈rowsS S,r.fault=0:=by intro r hr;rw[rowsS,kZ]at hr;obtain⟨i,hi,hk,hs,hg⟩:=hr;have hv:=h _ _ hs;obtain⟨k,v,g⟩:=r;simp only at hk hv hg;subst hk hg;unfold Row.fault dL inB;simp;omega
theorem aO5(S:Sl):cC (rowsS S)=rowsS S:=by unfold cC;rw[List.filter_eq_self];intro r hr;rw[rowsS,kZ]at hr;obtain⟨i,_,_,_,hg⟩:=hr;rw[hg];rfl
theorem bP8(h:Vals S):dT (rowsS S)=0:=by have hl:=qI S;rw[nA (by omega) (aC2 (aO4 h))];exact(aE8 _ O).2 ⟨aO4 h,gY S 100,fun q hq=>by cases hq⟩
theorem aX6(h:Vals S):dM (rowsS S)=0:=tZ (bP8 h) (by rw[aO5];omega)
theorem cX8:jG []=[]:=by unfold jG oK;rw[List.filter_eq_nil_iff];intro t _;simp[bP,Ft.lost,Ft.zero]
structure RecovIs(base:List Row)(zs:List Int)(L:List Int)(R:List Row):Prop where
 los:aR6 (aU zs)=(0,L)
 com:∀t∈L,(zZ (aU zs)).2.contains t=F'
 com0:(zZ (aU zs)).1=0
 map:iR R=(0,R)
 redo:mO base (aU zs)=(0,L,R)
 again:oT R []=(0,[],R)
 small:zs.length<=4000
theorem cJ8{L:List Int}(h:oT base zs=(0,L,R)):RecovIs base zs L R:=by
 by_cases hb:4000<zs.length
 .rw[sE hb]at h;simp at h
 rw[rF hb]at h;by_cases h1:eR (aU zs)=0;rotate_left
 .rw[wH rfl (by simpa using h1)]at h;simp only[Prod.mk.injEq]at h;exact absurd h.1 h1
 by_cases h2:dM base=0;rotate_left
 .rw[tV h1 rfl (by simpa using h2)]at h;simp only[Prod.mk.injEq]at h;exact absurd h.1 h2
 have h':=h;rw[vC h1 h2]at h;simp only[Prod.mk.injEq,true_and]at h;obtain⟨rfl,rfl⟩:=h;have hv:=cV1 h1 h2;refine⟨bL9 h1,fun t ht=>?_,by rw[aP9 h1],?_,h',?_,by omega⟩
 .rw[aP9 h1];have hl:=((tL _ t).1 ht).2.2;rw[bM1]at hl;simp only;cases hc:(eP (aU zs) 4).contains t
  .rfl
  .exfalso;have:(eP (aU zs) 4++eP (aU zs) 5).contains t=A':=by rw[List.contains_iff_mem]at hc⊢;exact List.mem_append_left _ hc
   rw[this]at hl;simp at hl
 .rw[oM (bP8 hv),aO5]
 .rw[rF (by simp)];have hr0:aU []=[]:=by have:=pZ [];have:=rZ [];simp at*;exact List.eq_nil_of_length_eq_zero (by omega)
  rw[hr0,vC rfl (aX6 hv),cX8];have:tQ (rowsS (tQ base (aU zs)).s) []=⟨fU (rowsS (tQ base (aU zs)).s) (rowsS (tQ base (aU zs)).s).length,fun t=>(bP [] t).bk⟩:=rfl;rw[this];simp only;rw[aB6 (aX6 hv)]
end Ch
end Go.Proofs.YtpbbokalojdooaaGreat
