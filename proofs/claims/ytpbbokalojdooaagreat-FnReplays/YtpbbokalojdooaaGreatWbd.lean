import Derived.Test.YtpbbokalojdooaaGreatWbc
namespace Go.Proofs.YtpbbokalojdooaaGreat
open Go.RowKit Ch Go.Proofs.Tryz
set_option linter.unusedSimpArgs false
set_option linter.unusedVariables false
set_option maxRecDepth 20000
set_option maxHeartbeats 8000000
open Value renaming int->I,slice->Z,bool->X,agg->U
open IntKind renaming i64->J
open Option renaming none->O,some->Y
open Obj renaming cells->M
open Ending renaming returned->R'
open Bool renaming true->A',false->F'
variable {a0:Act} {xs:List Value} {i:Nat} {T:Nat->Nat} {vs:Nat->Value} {a:Option Addr} {t:TypeId} {x:Value} {W w:World}
def cpD(j:Nat):Nat:=match j with|0=>7|3=>10|6=>13|9=>16|10=>17|13=>20|16=>23|19=>26|20=>27|_=>3
def cpE:List Nat:=[0,3,6,9,10,13,16,19,20,21]
def cpP(j:Nat):List Nat:=match j with|3=>[0]|13=>[10]|19=>[16]|20=>[3,6,9,13,19]|_=>[]
theorem bB6:(cpE.all fun i=>cpE.all fun j=>cpD i !=cpD j||i==j)=A':=by kernel_rfl
theorem cP7:cpE.Nodup:=by decide
theorem dC4(hi:cpE.contains i=A')(hs:(decide (cpD i<a0.tmps.size))=A'):(eB a0 cpD cpE vs).eval (.tmp (cpD i))=vs i:=mX cpD vs i cpE a0 bB6 cP7 (by simpa using hi) hs
def CpR(s:EgS)(e:Eng)(j:Nat)(v:Value)(T:Nat->Nat)(w:World):Prop:=match j with
 |0=>Empt w T 0 86 v
 |3=>∃a c,v=Z a s.bn c/\CellsAt (gU (Ice T) w) a (s.bn*3) (rcells e.base)
 |6=>∃a c,v=Z a s.ln c/\LvAt (gU (Ice T) w) a s.ln e.lv
 |9=>∃a c,v=Z a s.kn c/\LkAt (gU (Ice T) w) a s.kn e.lk
 |10=>Empt w T 0 265 v
 |13=>∃a c,v=Z a s.xn c/\CellsAt (gU (Ice T) w) a (s.xn*2) (hcells e.ix)
 |16=>Empt w T 6 2 v
 |19=>∃a c,v=Z a s.mn c/\OwnT w 0 T 6 2 1 (Z a s.mn c) s.mn (icells e.cm)
 |20=>∃a1 c1 a2 c2 a3 c3 a4 c4 a5 c5,v=U #[Z a1 s.bn c1,Z a2 s.ln c2,Z a3 s.kn c3,Z O 0 0,Z O 0 0,Z O 0 0,Z a4 s.xn c4,X e.bt,Z a5 s.mn c5,Z O 0 0]/\
   CellsAt (gU (Ice T) w) a1 (s.bn*3) (rcells e.base)/\LvAt (gU (Ice T) w) a2 s.ln e.lv/\LkAt (gU (Ice T) w) a3 s.kn e.lk/\CellsAt (gU (Ice T) w) a4 (s.xn*2) (hcells e.ix)/\OwnT w 0 T 6 2 1 (Z a5 s.mn c5) s.mn (icells e.cm)
 |_=>∃g,v= .pointer (Y ⟨g,0,O⟩)/\w.heap[g]? =Y (M #[Z O 0 0,Z O 0 0,Z O 0 0,Z O 0 0,Z O 0 0,Z O 0 0,Z O 0 0,X F',Z O 0 0,Z O 0 0] 68 (0,0))/\T g=1
def cqD(j:Nat):Nat:=match j with|0=>28|4=>32|5=>33|9=>37|10=>38|_=>39
def cqE:List Nat:=[0,4,5,9,10,11]
def cqP(j:Nat):List Nat:=match j with|4=>[0]|9=>[5]|10=>[4,9]|_=>[]
theorem aJ5:(cqE.all fun i=>cqE.all fun j=>cqD i !=cqD j||i==j)=A':=by kernel_rfl
theorem bM2:cqE.Nodup:=by decide
theorem dN5(hi:cqE.contains i=A')(hs:(decide (cqD i<a0.tmps.size))=A'):(eB a0 cqD cqE vs).eval (.tmp (cqD i))=vs i:=mX cqD vs i cqE a0 aJ5 bM2 (by simpa using hi) hs
def CqR(s:EgS)(e:Eng)(g:Nat)(j:Nat)(v:Value)(T:Nat->Nat)(w:World):Prop:=match j with
 |0=>Empt w T 4 5 v
 |4=>∃a c,v=Z a s.sn c/\OwnT w 0 T 4 5 1 (Z a s.sn c) s.sn (bts e.su)
 |5=>Empt w T 5 5 v
 |9=>∃a c,v=Z a s.on c/\OwnT w 0 T 5 5 1 (Z a s.on c) s.on (bts e.lo)
 |10=>∃a c a' c',v=U #[Z a s.sn c,Z a' s.on c']/\OwnT w 0 T 4 5 1 (Z a s.sn c) s.sn (bts e.su)/\OwnT w 0 T 5 5 1 (Z a' s.on c') s.on (bts e.lo)
 |_=>v= .pointer (Y ⟨g,4,O⟩)
theorem CqR.mono(s:EgS)(e:Eng)(g:Nat):∀j v T T' w w',CqR s e g j v T w->(∀k,Kp k T T' w w')->w.heap.size<=w'.heap.size->CqR s e g j v T' w':=by
 intro j v T T' w w' h hk _;unfold CqR at*;split at h
 .exact h.kept (hk 4)
 .obtain⟨a,c,h1,h2⟩:=h;exact⟨a,c,h1,h2.kept (hk 4)⟩
 .exact h.kept (hk 5)
 .obtain⟨a,c,h1,h2⟩:=h;exact⟨a,c,h1,h2.kept (hk 5)⟩
 .obtain⟨a,c,a',c',h1,h2,h3⟩:=h;exact⟨a,c,a',c',h1,h2.kept (hk 4),h3.kept (hk 5)⟩
 .exact h
theorem EgO.bare{w0:World}{s:EgS}{e:Eng}{a1 a2 a3 a4 a5:Option Addr}{c1 c2 c3 c4 c5:Nat}(h:EgR w0 s e)(k1:CellsAt (gU (Ice T) w) a1 (s.bn*3) (rcells e.base))(k2:LvAt (gU (Ice T) w) a2 s.ln e.lv)(k3:LkAt (gU (Ice T) w) a3 s.kn e.lk)(k4:CellsAt (gU (Ice T) w) a4 (s.xn*2) (hcells e.ix))(k5:OwnT w 0 T 6 2 1 (Z a5 s.mn c5) s.mn (icells e.cm)):
  EgO w 0 T ⟨a1,s.bn,c1,a2,s.ln,c2,a3,s.kn,c3,O,0,0,O,0,0,O,0,0,a4,s.xn,c4,a5,s.mn,c5,O,0,0⟩ {e with tx:=[],su:=[],lo:=[],ac:=[]}:=by
 have nilT:∀k t sz,OwnT w 0 T k t sz (Z O 0 0) 0 []:=fun k t sz=>⟨Aw _ _ _ _,fun g hg=>by simp[Value.ownBlock]at hg⟩
 exact⟨k1,k2,k3,k4,⟨fun _=>Z O 0 0,rfl,⟨[],nilT _ _ _,fun i j hi=>by simp at hi⟩,fun i hi=>by simp at hi,fun i=>by simp[aS,Tx.zero]⟩,nilT _ _ _,nilT _ _ _,k5,⟨fun _=>Z O 0 0,rfl,⟨[],nilT _ _ _,fun i j hi=>by simp at hi⟩,fun i hi=>by simp at hi,fun i=>by simp[aM,Ac.zero]⟩,fun i=>by simp,fun i=>by simp,h.n1,h.n2,h.n3,by simp,by simp,by simp,h.n7,h.n8,by simp⟩
def cwD(j:Nat):Nat:=match j with|1=>71|7=>77|_=>78
def cwE:List Nat:=[1,7,8]
def cwP(j:Nat):List Nat:=match j with|8=>[7]|_=>[]
theorem cA0:(cwE.all fun i=>cwE.all fun j=>cwD i !=cwD j||i==j)=A':=by kernel_rfl
theorem dC5:cwE.Nodup:=by decide
def CwR(a:Option Addr)(k c:Nat)(t:Ac)(nn:Nat)(j:Nat)(v:Value)(T:Nat->Nat)(w:World):Prop:=match j with
 |1=>v=Z a k c
 |7=>∃a7 c7,v=U #[I J t.tx,I J t.k,I J t.a,I J t.b,I J t.v,Z a7 nn c7]/\OwnT w 0 T (2*k+11) 2 1 (Z a7 nn c7) t.an.length (icells t.an)
 |_=>∃a7 c7 gb,v=Z (Y ⟨gb,0,O⟩) 1 1/\w.heap[gb]? =Y (M #[I J t.tx,I J t.k,I J t.a,I J t.b,I J t.v,Z a7 nn c7] 56 (0,0))/\T gb=8/\OwnT w 0 T (2*k+11) 2 1 (Z a7 nn c7) t.an.length (icells t.an)
theorem CwR.mono(a:Option Addr)(k c:Nat)(t:Ac)(nn:Nat):∀j v T T' w w',CwR a k c t nn j v T w->(∀k,Kp k T T' w w')->w.heap.size<=w'.heap.size->CwR a k c t nn j v T' w':=by
 intro j v T T' w w' h hk _;unfold CwR at*;split at h
 .exact h
 .obtain⟨a7,c7,h1,h2⟩:=h;exact⟨a7,c7,h1,h2.kept (hk _)⟩
 .obtain⟨a7,c7,gb,h1,h2,h3,h4⟩:=h;obtain⟨h5,h6⟩:=bJ h2 h3 (hk 8);exact⟨a7,c7,gb,h1,h5,h6,h4.kept (hk _)⟩
theorem cT8{gb:Nat}{t:Ac}(h:w.heap[gb]? =Y (M #[I J t.tx,I J t.k,I J t.a,I J t.b,I J t.v,x] 56 (0,0))):CellsAt w (Y ⟨gb,0,O⟩) (1*6) (acc6 t x):=by refine⟨rfl,fun _=>⟨_,_,rfl,fun i hi=>?_⟩⟩;rw[C' h,Al];simp[acc6]
theorem CpR.mono(s:EgS)(e:Eng):∀j v T T' w w',CpR s e j v T w->(∀k,Kp k T T' w w')->w.heap.size<=w'.heap.size->CpR s e j v T' w':=by
 intro j v T T' w w' h hk _;have hs:=eE (hk 0);unfold CpR at*;split at h
 .exact h.kept (hk 0)
 .obtain⟨a,c,h1,h2⟩:=h;exact⟨a,c,h1,h2.sub hs⟩
 .obtain⟨a,c,h1,h2⟩:=h;exact⟨a,c,h1,h2.sub hs⟩
 .obtain⟨a,c,h1,h2⟩:=h;exact⟨a,c,h1,h2.sub hs⟩
 .exact h.kept (hk 0)
 .obtain⟨a,c,h1,h2⟩:=h;exact⟨a,c,h1,h2.sub hs⟩
 .exact h.kept (hk 6)
 .obtain⟨a,c,h1,h2⟩:=h;exact⟨a,c,h1,h2.kept (hk 6)⟩
 .obtain⟨a1,c1,a2,c2,a3,c3,a4,c4,a5,c5,h1,h2,h3,h4,h5,h6⟩:=h;exact⟨a1,c1,a2,c2,a3,c3,a4,c4,a5,c5,h1,h2.sub hs,h3.sub hs,h4.sub hs,h5.sub hs,h6.kept (hk 6)⟩
 .obtain⟨g,h1,h2,h3⟩:=h;obtain⟨h4,h5⟩:=bJ h2 h3 (hk 1);exact⟨g,h1,h4,h5⟩
theorem bR6{sz:Nat}{n c:Nat}(h:OwnT w 0 T 0 t sz (Z a n c) n xs):CellsAt (gU (Ice T) w) a (n*sz) xs:=by have hc:=h.cells;refine⟨hc.1,fun h0=>?_⟩;obtain⟨b,off,ha,hi⟩:=hc.2 h0;refine⟨b,off,ha,fun i hlt=>?_⟩;have h1:=hi i hlt;have h2:xs[i]? =Y (xs[i]'(by have:=hc.1;omega)):=Ao _;rw[h2]at h1⊢;subst ha;exact kZ h1 (by simp[Ice,h.2 b rfl])
theorem xY(s:EgS)(e:Eng)(w:World)(h:EgR w s e)(hlv:aL e.lv=0):
  Calls prog 106 #[U #[Z s.ba s.bn s.bc,Z s.la s.ln s.lc,Z s.ka s.kn s.kc,Z s.ta s.tn s.tc,Z s.sa s.sn s.sc,Z s.oa s.on s.oc,Z s.xa s.xn s.xc,X e.bt,Z s.ma s.mn s.mc,Z s.aa s.an s.ac]] w fun r w'=>(∃s' T,r=R' (U (s'.cells e.bt))/\EgO w' 0 T s' e/\(∀x,x<w.heap.size->T x=8))/\V' w w':=by
 have HL:=h.lv.len;have hne:∀k,k<s.ln->(e.lv.getD k []).length≠0:=fun k hk=>(fY hlv k (by have:=HL.out;omega)).1;have hlm:∀i,(e.lv.getD i []).length<=9223372036854775807:=fun i=>by have:=fI h.n2 i;omega
 have hkm:∀i,(aI e.lk i).hs.length<=9223372036854775807/\(aI e.lk i).qs.length<=9223372036854775807:=fun i=>by have:=lF h.n3 i;constructor<;>omega
 have hsu:=fun W (hW:V' w W)=>(show CellsAt W s.sa (s.sn*1) (bts e.su)by rw[Fb];exact h.su.below hW)
 have hlo:=fun W (hW:V' w W)=>(show CellsAt W s.oa (s.on*1) (bts e.lo)by rw[Fb];exact h.lo.below hW)
 have n1:=h.n1;have n4:=h.n4;have n5:=h.n5;have n6:=h.n6;have n7:=h.n7;have n8:=h.n8;have n9:=h.n9;go_enter func106,ntmps106
 go_wp2_with fail
 have Hp:((w.alloc (M #[Z s.ba s.bn s.bc,Z s.la s.ln s.lc,Z s.ka s.kn s.kc,Z s.ta s.tn s.tc,Z s.sa s.sn s.sc,Z s.oa s.on s.oc,Z s.xa s.xn s.xc,X e.bt,Z s.ma s.mn s.mc,Z s.aa s.an s.ac] 68)).alloc (M #[Z O 0 0,Z O 0 0,Z O 0 0,Z O 0 0,Z O 0 0,Z O 0 0,Z O 0 0,X F',Z O 0 0,Z O 0 0] 68)).heap[w.heap.size]? =Y (M #[Z s.ba s.bn s.bc,Z s.la s.ln s.lc,Z s.ka s.kn s.kc,Z s.ta s.tn s.tc,Z s.sa s.sn s.sc,Z s.oa s.on s.oc,Z s.xa s.xn s.xc,X e.bt,Z s.ma s.mn s.mc,Z s.aa s.an s.ac] 68 (0,0)):=(cN (by simp)).trans (aP rfl);have Hq:((w.alloc (M #[Z s.ba s.bn s.bc,Z s.la s.ln s.lc,Z s.ka s.kn s.kc,Z s.ta s.tn s.tc,Z s.sa s.sn s.sc,Z s.oa s.on s.oc,Z s.xa s.xn s.xc,X e.bt,Z s.ma s.mn s.mc,Z s.aa s.an s.ac] 68)).alloc (M #[Z O 0 0,Z O 0 0,Z O 0 0,Z O 0 0,Z O 0 0,Z O 0 0,Z O 0 0,X F',Z O 0 0,Z O 0 0] 68)).heap[w.heap.size+1]? =Y (M #[Z O 0 0,Z O 0 0,Z O 0 0,Z O 0 0,Z O 0 0,Z O 0 0,Z O 0 0,X F',Z O 0 0,Z O 0 0] 68 (0,0)):=aP (by simp);have kW:V' w ((w.alloc (M #[Z s.ba s.bn s.bc,Z s.la s.ln s.lc,Z s.ka s.kn s.kc,Z s.ta s.tn s.tc,Z s.sa s.sn s.sc,Z s.oa s.on s.oc,Z s.xa s.xn s.xc,X e.bt,Z s.ma s.mn s.mc,Z s.aa s.an s.ac] 68)).alloc (M #[Z O 0 0,Z O 0 0,Z O 0 0,Z O 0 0,Z O 0 0,Z O 0 0,Z O 0 0,X F',Z O 0 0,Z O 0 0] 68)):=((Aa _ _).alloc z' _).alloc (by simp) _;have hW1:((w.alloc (M #[Z s.ba s.bn s.bc,Z s.la s.ln s.lc,Z s.ka s.kn s.kc,Z s.ta s.tn s.tc,Z s.sa s.sn s.sc,Z s.oa s.on s.oc,Z s.xa s.xn s.xc,X e.bt,Z s.ma s.mn s.mc,Z s.aa s.an s.ac] 68)).alloc (M #[Z O 0 0,Z O 0 0,Z O 0 0,Z O 0 0,Z O 0 0,Z O 0 0,Z O 0 0,X F',Z O 0 0,Z O 0 0] 68)).heap.size=w.heap.size+1+1:=by simp
 generalize(w.alloc (M #[Z s.ba s.bn s.bc,Z s.la s.ln s.lc,Z s.ka s.kn s.kc,Z s.ta s.tn s.tc,Z s.sa s.sn s.sc,Z s.oa s.on s.oc,Z s.xa s.xn s.xc,X e.bt,Z s.ma s.mn s.mc,Z s.aa s.an s.ac] 68)).alloc (M #[Z O 0 0,Z O 0 0,Z O 0 0,Z O 0 0,Z O 0 0,Z O 0 0,Z O 0 0,X F',Z O 0 0,Z O 0 0] 68)=W1 at*;obtain⟨⟨x0,x1,x2,x3,x4,x5,x6,x7,x8,x9⟩,_⟩:=eK Hp;refine R0 (fun W'=>W'.cell? ⟨w.heap.size,0,O⟩=Y (Z s.ba s.bn s.bc)/\W'.cell? ⟨w.heap.size,1,O⟩=Y (Z s.la s.ln s.lc)/\W'.cell? ⟨w.heap.size,2,O⟩=Y (Z s.ka s.kn s.kc)/\W'.cell? ⟨w.heap.size,6,O⟩=Y (Z s.xa s.xn s.xc)/\W'.cell? ⟨w.heap.size,7,O⟩=Y (X e.bt)/\W'.cell? ⟨w.heap.size,8,O⟩=Y (Z s.ma s.mn s.mc)/\V' W1 W') (⟨x0,x1,x2,x6,x7,x8,(Aa _ _).drew⟩) (fun hH=>?_);refine R5 1 2 4 5 7 ?_;refine R5 8 11 12 14 15 ?_;refine R2 17 18 ?_;refine vX (d:=cpD) (E:=cpE) (z:=22) (pre:=cpP) (R:=CpR s e) (Bs:=fun T W=>V' W1 W/\∀x,x<W1.heap.size->T x=cpT (w.heap.size+1) x) bB6 cP7 (by kernel_rfl) (by kernel_rfl) (by kernel_rfl) (by kernel_rfl) (by kernel_rfl) (by kernel_rfl) (by kernel_rfl) (Nat.le_of_ble_eq_true (by kernel_rfl)) (CpR.mono s e) ?bs ?step ?last (cpT (w.heap.size+1)) ?init;case init=>exact⟨(Aa _ _).drew,fun _ _=>rfl⟩
 case bs=>intro T W hB;exact⟨keep_cell hB.1 x0,keep_cell hB.1 x1,keep_cell hB.1 x2,keep_cell hB.1 x6,keep_cell hB.1 x7,keep_cell hB.1 x8,hB.1⟩
 case step=>
  intro i hi vs T W hB hp;unfold cpE at hi;simp only[Am,Cu,Eh]at hi;rcases hi with rfl|rfl|rfl|rfl|rfl|rfl|rfl|rfl|rfl|rfl
  .refine Dq rfl (fun K hK=>?_);go_simp;exact hK _ _ ⟨_,mrk T W.heap.size 0,rfl,Empt.new W T 0 86,fun k=>aY ((Aa _ _).alloc z' _) T 0 k,by simp,hB.1.alloc hB.1.size _,fun x hx=>by unfold mrk;rw[if_pos (by have:=hB.1.size;omega)];exact hB.2 x hx⟩
  .obtain⟨g,hv,hg,hT⟩:=hp 0 (by simp[cpP]);refine Dq rfl (fun K hK=>?_);refine vP dQ5 (.tmp 7) (.tmp 9) rfl rfl g s.ba s.bn s.bc (rcells e.base) ((dC4 (i:=0) (by kernel_rfl) (by kernel_rfl)).trans hv) ((eG cpD vs 9 cpE _ (by kernel_rfl)).trans rfl) (h.base.below (kW.trans (hB.1.mono kW.size))) (by omega) ?_;intro a' c' W2 hb ho;have hO:=Empt.app hg hT h.base.1 hb ho;exact hK _ _ ⟨_,mrk T W.heap.size 0,rfl,⟨a',c',rfl,bR6 hO⟩,fun k=>aY hb T 0 k,hb.size,⟨hB.1.trans (hb.mono hB.1.size),fun x hx=>by unfold mrk;rw[if_pos (by have:=hB.1.size;omega)];exact hB.2 x hx⟩⟩
  .refine Dq rfl (fun K hK=>?_);refine tO (x:=.tmp 12) rfl rfl ((eG cpD vs 12 cpE _ (by kernel_rfl)).trans rfl) (by go_simp) ?_;refine(pM s.la s.ln s.lc e.lv _ (h.lv.below (kW.trans (hB.1.mono kW.size))) h.n2 hne).mono ?_;rintro r W2⟨a',c',rfl,ho,hb⟩;exact⟨_,rfl,hK _ _ ⟨_,mrk T W.heap.size 0,rfl,⟨a',c',rfl,OwnLv.seen ho hlm (jR T W.heap.size)⟩,fun k=>aY hb T 0 k,hb.size,⟨hB.1.trans (hb.mono hB.1.size),fun x hx=>by unfold mrk;rw[if_pos (by have:=hB.1.size;omega)];exact hB.2 x hx⟩⟩⟩
  .refine Dq rfl (fun K hK=>?_);refine tO (x:=.tmp 15) rfl rfl ((eG cpD vs 15 cpE _ (by kernel_rfl)).trans rfl) (by go_simp) ?_;refine(yE s.ka s.kn s.kc e.lk _ (h.lk.below (kW.trans (hB.1.mono kW.size))) h.n3).mono ?_;rintro r W2⟨o',c',rfl,⟨vs',ho⟩,hb⟩;exact⟨_,rfl,hK _ _ ⟨_,mrk T W.heap.size 0,rfl,⟨_,c',rfl,OwnK.seen ho hkm (jR T W.heap.size)⟩,fun k=>aY hb T 0 k,hb.size,⟨hB.1.trans (hb.mono hB.1.size),fun x hx=>by unfold mrk;rw[if_pos (by have:=hB.1.size;omega)];exact hB.2 x hx⟩⟩⟩
  .refine Dq rfl (fun K hK=>?_);go_simp;exact hK _ _ ⟨_,mrk T W.heap.size 0,rfl,Empt.new W T 0 265,fun k=>aY ((Aa _ _).alloc z' _) T 0 k,by simp,hB.1.alloc hB.1.size _,fun x hx=>by unfold mrk;rw[if_pos (by have:=hB.1.size;omega)];exact hB.2 x hx⟩
  .obtain⟨g,hv,hg,hT⟩:=hp 10 (by simp[cpP]);refine Dq rfl (fun K hK=>?_);refine vP dO5 (.tmp 17) (.tmp 19) rfl rfl g s.xa s.xn s.xc (hcells e.ix) ((dC4 (i:=10) (by kernel_rfl) (by kernel_rfl)).trans hv) ((eG cpD vs 19 cpE _ (by kernel_rfl)).trans rfl) (h.ix.below (kW.trans (hB.1.mono kW.size))) (by omega) ?_;intro a' c' W2 hb ho;have hO:=Empt.app hg hT h.ix.1 hb ho;exact hK _ _ ⟨_,mrk T W.heap.size 0,rfl,⟨a',c',rfl,bR6 hO⟩,fun k=>aY hb T 0 k,hb.size,⟨hB.1.trans (hb.mono hB.1.size),fun x hx=>by unfold mrk;rw[if_pos (by have:=hB.1.size;omega)];exact hB.2 x hx⟩⟩
  .refine Dq rfl (fun K hK=>?_);go_simp;exact hK _ _ ⟨_,mrk T W.heap.size 6,rfl,Empt.new W T 6 2,fun k=>aY ((Aa _ _).alloc z' _) T 6 k,by simp,hB.1.alloc hB.1.size _,fun x hx=>by unfold mrk;rw[if_pos (by have:=hB.1.size;omega)];exact hB.2 x hx⟩
  .obtain⟨g,hv,hg,hT⟩:=hp 16 (by simp[cpP]);refine Dq rfl (fun K hK=>?_);refine vP tS (.tmp 23) (.tmp 25) rfl rfl g s.ma s.mn s.mc (icells e.cm) ((dC4 (i:=16) (by kernel_rfl) (by kernel_rfl)).trans hv) ((eG cpD vs 25 cpE _ (by kernel_rfl)).trans rfl) (h.cm.below (kW.trans (hB.1.mono kW.size))) (by omega) ?_;intro a' c' W2 hb ho;have hO:=Empt.app hg hT h.cm.1 hb ho;exact hK _ _ ⟨_,mrk T W.heap.size 6,rfl,⟨a',c',rfl,hO⟩,fun k=>aY hb T 6 k,hb.size,⟨hB.1.trans (hb.mono hB.1.size),fun x hx=>by unfold mrk;rw[if_pos (by have:=hB.1.size;omega)];exact hB.2 x hx⟩⟩
  .obtain⟨a1,c1,e1,k1⟩:=hp 3 (by simp[cpP]);obtain⟨a2,c2,e2,k2⟩:=hp 6 (by simp[cpP]);obtain⟨a3,c3,e3,k3⟩:=hp 9 (by simp[cpP]);obtain⟨a4,c4,e4,k4⟩:=hp 13 (by simp[cpP]);obtain⟨a5,c5,e5,k5⟩:=hp 19 (by simp[cpP]);refine Dq rfl (fun K hK=>?_);refine vQ (v:=U #[Z a1 s.bn c1,Z a2 s.ln c2,Z a3 s.kn c3,Z O 0 0,Z O 0 0,Z O 0 0,Z a4 s.xn c4,X e.bt,Z a5 s.mn c5,Z O 0 0]) (vs:=vs) (d:=cpD) (L:=cpE) (K:=K) ?_ ?_ ?_ ?_ ?_ ?_
   .exact bB6
   .exact cP7
   .kernel_rfl
   .rfl
   .intro ev h1 h2;have s1:ev (.tmp 10)=_:=(h1 3 (by kernel_rfl)).trans e1;have s2:ev (.tmp 13)=_:=(h1 6 (by kernel_rfl)).trans e2;have s3:ev (.tmp 16)=_:=(h1 9 (by kernel_rfl)).trans e3;have s4:ev (.tmp 20)=_:=(h1 13 (by kernel_rfl)).trans e4;have s5:ev (.tmp 26)=_:=(h1 19 (by kernel_rfl)).trans e5;have s6:ev (.tmp 22)=X e.bt:=(h2 22 (by kernel_rfl)).trans rfl;clear h1 h2;go_simp
   .exact hK _ _ ⟨_,T,rfl,⟨a1,c1,a2,c2,a3,c3,a4,c4,a5,c5,rfl,k1,k2,k3,k4,k5⟩,fun k=>Kp.refl k T W,z',hB⟩
  .refine Dq rfl (fun K hK=>?_);go_simp;exact hK _ _ ⟨_,mrk T W.heap.size 1,rfl,⟨W.heap.size,rfl,aP rfl,by unfold mrk;rw[if_neg (by omega)]⟩,fun k=>aY ((Aa _ _).alloc z' _) T 1 k,by simp,hB.1.alloc hB.1.size _,fun x hx=>by unfold mrk;rw[if_pos (by have:=hB.1.size;omega)];exact hB.2 x hx⟩
 case last=>
  intro vs T W hB hR K0 hK0;obtain⟨a1,c1,a2,c2,a3,c3,a4,c4,a5,c5,ev,k1,k2,k3,k4,k5⟩:=hR 20 (by simp[cpE]);obtain⟨g,eg,hg,hTg⟩:=hR 21 (by simp[cpE]);clear hR;obtain⟨⟨y0,y1,y2,y3,y4,y5,y6,y7,y8,y9⟩,⟨f0,f1,f2,f3,f4,f5,f6,f7,f8,f9⟩⟩:=eK hg;have hgl:W1.heap.size<=g:=by
   rcases Cd g W1.heap.size with hlt|hge
   .have:=hB.2 g hlt;rcases dC1 (w.heap.size+1) g with h1|h1<;>omega
   .exact hge
  have hput:=aO4 (Z a1 s.bn c1) (Z a2 s.ln c2) (Z a3 s.kn c3) (Z O 0 0) (Z O 0 0) (Z O 0 0) (Z a4 s.xn c4) (X e.bt) (Z a5 s.mn c5) (Z O 0 0) hg;have hg2:=hput.1;have hgr:=hput.2;clear hput;refine tR ⟨O,.store 68 (.tmp 3) (.tmp 27),_,_,_,O⟩ (((((((((((W.setCell ⟨g,0,O⟩ (Z a1 s.bn c1)).setCell ⟨g,1,O⟩ (Z a2 s.ln c2)).setCell ⟨g,2,O⟩ (Z a3 s.kn c3)).setCell ⟨g,3,O⟩ (Z O 0 0)).setCell ⟨g,4,O⟩ (Z O 0 0)).setCell ⟨g,5,O⟩ (Z O 0 0)).setCell ⟨g,6,O⟩ (Z a4 s.xn c4)).setCell ⟨g,7,O⟩ (X e.bt)).setCell ⟨g,8,O⟩ (Z a5 s.mn c5)).setCell ⟨g,9,O⟩ (Z O 0 0))) (by rfl) bB6 cP7 (by kernel_rfl) rfl ?_ ?_
  .intro ev' h1 h2;have s1:ev' (.tmp 3)=_:=(h1 21 (by kernel_rfl)).trans eg;have s2:ev' (.tmp 27)=_:=(h1 20 (by kernel_rfl)).trans ev;clear h1 h2;go_simp
  .have hE:=EgO.bare (w0:=w) (s:=s) (e:=e) (a1:=a1) (a2:=a2) (a3:=a3) (a4:=a4) (a5:=a5) (c1:=c1) (c2:=c2) (c3:=c3) (c4:=c4) (c5:=c5) h k1 k2 k3 k4 k5;replace hE:=hE.kept (T':=T) (fun k h1 _=>gC hgr hTg h1);have hB2:V' W1 ((((((((((W.setCell ⟨g,0,O⟩ (Z a1 s.bn c1)).setCell ⟨g,1,O⟩ (Z a2 s.ln c2)).setCell ⟨g,2,O⟩ (Z a3 s.kn c3)).setCell ⟨g,3,O⟩ (Z O 0 0)).setCell ⟨g,4,O⟩ (Z O 0 0)).setCell ⟨g,5,O⟩ (Z O 0 0)).setCell ⟨g,6,O⟩ (Z a4 s.xn c4)).setCell ⟨g,7,O⟩ (X e.bt)).setCell ⟨g,8,O⟩ (Z a5 s.mn c5)).setCell ⟨g,9,O⟩ (Z O 0 0)):=cK hB.1 hgr (fun k hk=>by cases hk;exact hgl) hB.1.size;generalize((((((((((W.setCell ⟨g,0,O⟩ (Z a1 s.bn c1)).setCell ⟨g,1,O⟩ (Z a2 s.ln c2)).setCell ⟨g,2,O⟩ (Z a3 s.kn c3)).setCell ⟨g,3,O⟩ (Z O 0 0)).setCell ⟨g,4,O⟩ (Z O 0 0)).setCell ⟨g,5,O⟩ (Z O 0 0)).setCell ⟨g,6,O⟩ (Z a4 s.xn c4)).setCell ⟨g,7,O⟩ (X e.bt)).setCell ⟨g,8,O⟩ (Z a5 s.mn c5)).setCell ⟨g,9,O⟩ (Z O 0 0))=W2 at*;clear hgr hg k1 k2 k3 k4 k5 y0 y1 y2 y3 y4 y5 y6 y7 y8 y9 f0 f1 f2 f3 f4 f5 f6 f7 f8 f9;refine(hK0 _ _ ⟨keep_cell hB2 x0,keep_cell hB2 x1,keep_cell hB2 x2,keep_cell hB2 x6,keep_cell hB2 x7,keep_cell hB2 x8,hB2⟩ (NoPanic.normal ?_));dsimp only[eB,cpE,List.foldl];simp only[Act.put,cpD,Bh,List.set_cons_zero,List.set_cons_succ];rw[ev,eg];go_wp2_with fail
   refine R0 (fun W'=>W'.cell? ⟨w.heap.size,4,O⟩=Y (Z s.sa s.sn s.sc)/\W'.cell? ⟨w.heap.size,5,O⟩=Y (Z s.oa s.on s.oc)/\V' W1 W') (⟨(keep_cell hB2 x4:),(keep_cell hB2 x5:),hB2.drew⟩) (fun hH=>?_);refine R5 1 2 3 6 7 ?_;refine R1 8 ?_;refine vX (d:=cqD) (E:=cqE) (z:=12) (pre:=cqP) (R:=CqR s e g) (Bs:=fun T W=>V' W1 W/\(∀x,x<W1.heap.size->T x=cpT (w.heap.size+1) x)/\EgO W 0 T (⟨a1,s.bn,c1,a2,s.ln,c2,a3,s.kn,c3,O,0,0,O,0,0,O,0,0,a4,s.xn,c4,a5,s.mn,c5,O,0,0⟩:EgS) {e with tx:=[],su:=[],lo:=[],ac:=[]}/\W.heap[g]? =Y (M #[Z a1 s.bn c1,Z a2 s.ln c2,Z a3 s.kn c3,Z O 0 0,Z O 0 0,Z O 0 0,Z a4 s.xn c4,X e.bt,Z a5 s.mn c5,Z O 0 0] 68 (0,0))/\T g=1) aJ5 bM2 (by kernel_rfl) (by kernel_rfl) (by kernel_rfl) (by kernel_rfl) (by kernel_rfl) (by kernel_rfl) (by kernel_rfl) (Nat.le_of_ble_eq_true (by kernel_rfl)) (CqR.mono s e g) ?bs2 ?step2 ?last2 T ?init2;case init2=>exact⟨hB2.drew,hB.2,hE.kept (fun k _ _=>jS),hg2,hTg⟩
   case bs2=>intro T W hB;exact⟨keep_cell hB.1 x4,keep_cell hB.1 x5,hB.1⟩
   case step2=>
    intro i hi vs T W hB hp;unfold cqE at hi;simp only[Am,Cu,Eh]at hi;rcases hi with rfl|rfl|rfl|rfl|rfl|rfl
    .refine Dq rfl (fun K hK=>?_);have hb:V' W (W.alloc (M #[] 5)):=(Aa _ _).alloc z' _;go_simp;exact hK _ _ ⟨_,mrk T W.heap.size 4,rfl,Empt.new W T 4 5,fun k=>aY hb T 4 k,hb.size,(have hkk:=fun k=>aY hb T 4 k;⟨hB.1.trans (hb.mono hB.1.size),fun x hx=>by unfold mrk;rw[if_pos (by have:=hB.1.size;omega)];exact hB.2.1 x hx,hB.2.2.1.kept (fun k _ _=>hkk k),bJ hB.2.2.2.1 hB.2.2.2.2 (hkk 1)⟩)⟩
    .obtain⟨g',hv,hg',hT⟩:=hp 0 (by simp[cqP]);refine Dq rfl (fun K hK=>?_);refine vP bA5 (.tmp 28) (.tmp 31) rfl rfl g' s.sa s.sn s.sc (bts e.su) ((dN5 (i:=0) (by kernel_rfl) (by kernel_rfl)).trans hv) ((eG cqD vs 31 cqE _ (by kernel_rfl)).trans rfl) (hsu _ (kW.trans (hB.1.mono kW.size))) (by omega) ?_;intro a' c' W2 hb ho;have hO:=Empt.app hg' hT (hsu _ (kW.trans (hB.1.mono kW.size))).1 hb ho;exact hK _ _ ⟨_,mrk T W.heap.size 4,rfl,⟨a',c',rfl,hO⟩,fun k=>aY hb T 4 k,hb.size,(have hkk:=fun k=>aY hb T 4 k;⟨hB.1.trans (hb.mono hB.1.size),fun x hx=>by unfold mrk;rw[if_pos (by have:=hB.1.size;omega)];exact hB.2.1 x hx,hB.2.2.1.kept (fun k _ _=>hkk k),bJ hB.2.2.2.1 hB.2.2.2.2 (hkk 1)⟩)⟩
    .refine Dq rfl (fun K hK=>?_);have hb:V' W (W.alloc (M #[] 5)):=(Aa _ _).alloc z' _;go_simp;exact hK _ _ ⟨_,mrk T W.heap.size 5,rfl,Empt.new W T 5 5,fun k=>aY hb T 5 k,hb.size,(have hkk:=fun k=>aY hb T 5 k;⟨hB.1.trans (hb.mono hB.1.size),fun x hx=>by unfold mrk;rw[if_pos (by have:=hB.1.size;omega)];exact hB.2.1 x hx,hB.2.2.1.kept (fun k _ _=>hkk k),bJ hB.2.2.2.1 hB.2.2.2.2 (hkk 1)⟩)⟩
    .obtain⟨g',hv,hg',hT⟩:=hp 5 (by simp[cqP]);refine Dq rfl (fun K hK=>?_);refine vP bA5 (.tmp 33) (.tmp 36) rfl rfl g' s.oa s.on s.oc (bts e.lo) ((dN5 (i:=5) (by kernel_rfl) (by kernel_rfl)).trans hv) ((eG cqD vs 36 cqE _ (by kernel_rfl)).trans rfl) (hlo _ (kW.trans (hB.1.mono kW.size))) (by omega) ?_;intro a' c' W2 hb ho;have hO:=Empt.app hg' hT (hlo _ (kW.trans (hB.1.mono kW.size))).1 hb ho;exact hK _ _ ⟨_,mrk T W.heap.size 5,rfl,⟨a',c',rfl,hO⟩,fun k=>aY hb T 5 k,hb.size,(have hkk:=fun k=>aY hb T 5 k;⟨hB.1.trans (hb.mono hB.1.size),fun x hx=>by unfold mrk;rw[if_pos (by have:=hB.1.size;omega)];exact hB.2.1 x hx,hB.2.2.1.kept (fun k _ _=>hkk k),bJ hB.2.2.2.1 hB.2.2.2.2 (hkk 1)⟩)⟩
    .obtain⟨b1,d1,e1,m1⟩:=hp 4 (by simp[cqP]);obtain⟨b2,d2,e2,m2⟩:=hp 9 (by simp[cqP]);refine Dq rfl (fun K hK=>?_);refine vQ (v:=U #[Z b1 s.sn d1,Z b2 s.on d2]) (vs:=vs) (d:=cqD) (L:=cqE) (K:=K) ?_ ?_ ?_ ?_ ?_ ?_
     .exact aJ5
     .exact bM2
     .kernel_rfl
     .rfl
     .intro ev h1 h2;have s1:ev (.tmp 32)=_:=(h1 4 (by kernel_rfl)).trans e1;have s2:ev (.tmp 37)=_:=(h1 9 (by kernel_rfl)).trans e2;clear h1 h2;go_simp
     .exact hK _ _ ⟨_,T,rfl,⟨b1,d1,b2,d2,rfl,m1,m2⟩,fun k=>Kp.refl k T W,z',hB⟩
    .refine kP ⟨Y 39,.fieldAddr 68 (.tmp 3) 4,_,_,_,O⟩ (.pointer (Y ⟨g,4,O⟩)) (by rfl) aJ5 bM2 (by kernel_rfl) rfl ?_ ?_
     .intro ev h1 h2;have s1:ev (.tmp 3)= .pointer (Y ⟨g,0,O⟩):=(h2 3 (by kernel_rfl)).trans rfl;clear h1 h2;go_simp
     .exact⟨_,T,rfl,rfl,fun k=>Kp.refl k T W,z',hB⟩
   case last2=>
    intro vs2 T W hB hR K0 hK0;obtain⟨b1,d1,b2,d2,ev2,m1,m2⟩:=hR 10 (by simp[cqE]);have eg2:vs2 11= .pointer (Y ⟨g,4,O⟩):=hR 11 (by simp[cqE]);clear hR;obtain⟨hB1,hBt,hE,hg,hTg⟩:=hB;obtain⟨⟨y0,y1,y2,y3,y4,y5,y6,y7,y8,y9⟩,⟨f0,f1,f2,f3,f4,f5,f6,f7,f8,f9⟩⟩:=eK hg;refine tR ⟨O,.store 65 (.tmp 39) (.tmp 38),_,_,_,O⟩ ((W.setCell ⟨g,4,O⟩ (Z b1 s.sn d1)).setCell ⟨g,5,O⟩ (Z b2 s.on d2)) (by rfl) aJ5 bM2 (by kernel_rfl) rfl ?_ ?_
    .intro ev' h1 h2;have s1:ev' (.tmp 39)=_:=(h1 11 (by kernel_rfl)).trans eg2;have s2:ev' (.tmp 38)=_:=(h1 10 (by kernel_rfl)).trans ev2;clear h1 h2;go_simp
    .have h4:=Ag W g 4 _ _ (Z b1 s.sn d1) hg;have h5:=Ag _ g 5 _ _ (Z b2 s.on d2) h4;have hgr:W.grownBy ((W.setCell ⟨g,4,O⟩ (Z b1 s.sn d1)).setCell ⟨g,5,O⟩ (Z b2 s.on d2)) (Y g):=cM iI;have hE1:EgO W 0 T (⟨a1,s.bn,c1,a2,s.ln,c2,a3,s.kn,c3,O,0,0,b1,s.sn,d1,b2,s.on,d2,a4,s.xn,c4,a5,s.mn,c5,O,0,0⟩:EgS) {e with tx:=[],ac:=[]}:=(hE.newSu (fun k _ _ _=>Kp.refl k T W) m1 h.bsu h.n5).newLo (fun k _ _ _=>Kp.refl k T W) m2 h.blo h.n6;have hE2:=hE1.kept (T':=T) (fun k h1 _=>gC hgr hTg h1);have hB3:V' W1 ((W.setCell ⟨g,4,O⟩ (Z b1 s.sn d1)).setCell ⟨g,5,O⟩ (Z b2 s.on d2)):=cK hB1 hgr (fun k hk=>by cases hk;exact hgl) hB1.size;have hI:CpI W1 (w.heap.size+1) g (⟨a1,s.bn,c1,a2,s.ln,c2,a3,s.kn,c3,O,0,0,b1,s.sn,d1,b2,s.on,d2,a4,s.xn,c4,a5,s.mn,c5,O,0,0⟩:EgS) {e with tx:=[],ac:=[]} T ((W.setCell ⟨g,4,O⟩ (Z b1 s.sn d1)).setCell ⟨g,5,O⟩ (Z b2 s.on d2)):=⟨hB3,hBt,hE2,h5,hTg⟩
     generalize(W.setCell ⟨g,4,O⟩ (Z b1 s.sn d1)).setCell ⟨g,5,O⟩ (Z b2 s.on d2)=W3 at*;clear hgr hg hE hE1 hE2 h4 h5 m1 m2 hB1 y0 y1 y2 y3 y4 y5 y6 y7 y8 y9 f0 f1 f2 f3 f4 f5 f6 f7 f8 f9;refine hK0 _ _ ⟨keep_cell hB3 x4,keep_cell hB3 x5,hB3⟩ (NoPanic.normal ?_);dsimp only[eB,cqE,List.foldl];simp only[Act.put,cqD,Bh,List.set_cons_zero,List.set_cons_succ];rw[ev2,eg2];clear ev eg ev2 eg2 hK0;generalize hS1:(⟨a1,s.bn,c1,a2,s.ln,c2,a3,s.kn,c3,O,0,0,b1,s.sn,d1,b2,s.on,d2,a4,s.xn,c4,a5,s.mn,c5,O,0,0⟩:EgS)=S1 at*;go_wp2;go_loopw [4] (fun i wr=>∃(k:Nat) (T:Nat->Nat) (a:Option Addr) (c:Nat),k<=s.tn/\i=I J k/\CpI W1 (w.heap.size+1) g {S1 with ta:=a,tn:=k,tc:=c} {e with tx:=e.tx.take k,ac:=[]} T wr) (fun i _=>s.tn-(intOf i).toNat)
     case atStart=>exact⟨0,T,O,0,Ad _,rfl,by rw[<-hS1]at hI⊢;exact hI⟩
     case round=>
      obtain⟨k,T,a,c,hk,rfl,hI⟩:=hrel;have x3:=keep_cell hI.bel x3;have hbl:=aD x3;by_cases hlt:k<s.tn
      .obtain⟨g0,off,au,nu,cu,hta,t0,t1,t2,t3,t4,t5,t6,t7,hU,hnu⟩:=(h.tx.below (kW.trans (hI.bel.mono kW.size))).txn hlt;rw[hta]at x3;have HTA:=hid hta;clear hta;have hgl0:=aD t0;have HTk:=hid (bI2 e.tx k (by have:=h.tx.len.out;omega));generalize aS e.tx k=tt at t0 t1 t2 t3 t4 t5 t6 t7 hU HTk;obtain⟨tid,tsy,tst,tun,twk,twa,twb,twv⟩:=tt;simp only at t0 t1 t2 t3 t4 t5 t6 t7 hU;have HUn:=hU.bflen;have hUl:(bfcells tun).length=nu*3:=hU.1;have k5:V' wr ((wr.alloc (M #[I J tid,X tsy,I J tst,Z au nu cu,I J twk,I J twa,I J twb,I J twv] 155)).alloc (M #[] 263)):=((Aa _ _).alloc z' _).alloc (by simp) _;have P5:((wr.alloc (M #[I J tid,X tsy,I J tst,Z au nu cu,I J twk,I J twa,I J twb,I J twv] 155)).alloc (M #[] 263)).heap[wr.heap.size]? =Y (M #[I J tid,X tsy,I J tst,Z au nu cu,I J twk,I J twa,I J twb,I J twv] 155 (0,0)):=(cN (by simp)).trans (aP rfl);have P6:((wr.alloc (M #[I J tid,X tsy,I J tst,Z au nu cu,I J twk,I J twa,I J twb,I J twv] 155)).alloc (M #[] 263)).heap[wr.heap.size+1]? =Y (M #[] 263 (0,0)):=aP (by simp);have hUb:=hU.below k5;have hgw:g<wr.heap.size:=(Ab.1 hI.box).1;have hgne:¬wr.heap.size=g:=by omega
       have hgne':¬g=wr.heap.size:=by omega
       go_wp2_with(at_builtin;first
        |(refine dF3 dN3 (.tmp 52) (.tmp 54) ?_ ?_ (wr.heap.size+1) au nu cu (bfcells tun) ?_ ?_ hUb (by omega) ?_;exact rfl;exact rfl;exact rfl;exact rfl;intro a6 c6 W6 hb6 ho6
          have hO6:=aV6 P6 z' hUl ho6;obtain⟨⟨q0,q1,q2,q3,q4,q5,q6,q7⟩,⟨r0,r1,r2,r3,r4,r5,r6,r7⟩⟩:=bZ7 (aR hb6 P5);have hI8:=dJ6 (t:=⟨tid,tsy,tst,tun,twk,twa,twb,twv⟩) (C9:=#[I J tid,X tsy,I J tst,Z a6 nu c6,I J twk,I J twa,I J twb,I J twv]) hI hb6 hO6 HUn;have z9:W6.cell? ⟨g,3,O⟩=Y (Z a k c):=Ai _ g 3 _ _ _ (dC3 hI k5 hb6);have e9:=An _ g 3 _ _ (dC3 hI k5 hb6);obtain⟨T8,hI8,hx8⟩:=hI8;obtain⟨us,hTx⟩:=hI8.own.tx;obtain⟨cs,hr,hcs⟩:=hTx.row;have HCS:=hid hcs;have HIA:=hid hI;clear hcs;have hN:=cR4 (W6.setCell ⟨wr.heap.size,3,O⟩ (Z a6 nu c6)) ⟨tid,tsy,tst,tun,twk,twa,twb,twv⟩ (Z a6 nu c6);have hsz:(W6.setCell ⟨wr.heap.size,3,O⟩ (Z a6 nu c6)).heap.size=W6.heap.size:=by simp
          rw[hsz]at hN;simp only at hN;clear ho6 P5 P6 hUb hO6)
        |(refine aE3 dN4 (.tmp 58) (.tmp 60) ?_ ?_ 0 (Z a k c) k cs (Y ⟨W6.heap.size,0,O⟩) 1 1 (txc ⟨tid,tsy,tst,tun,twk,twa,twb,twv⟩ (Z a6 nu c6)) ?_ ?_ hr.1 hN (cS6 _ _ _ _) (by omega) (Ad _) ?_;exact rfl;exact rfl;exact rfl;exact rfl;intro a9 c9 W9 o9 gr9 at9
          have hI9:=CpI.txn hI8 hTx hr HCS.out hx8 (by show tun.length<=1048576;have:=HUn.out;omega) (by show k+1<=1048576;omega) o9 gr9 at9;have hb9:=(bJ hI8.box hI8.tag (dF gr9 (fun g hg=>hr.2 g hg) (by decide:1≠2))).1;have y9:=Ai _ g 3 _ _ _ hb9;have w9:=An _ g 3 _ _ hb9;clear hb9 hI8 hTx hr HCS hx8 o9 gr9 at9 hN))
       go_roundw;case rel=>exact⟨k+1,_,a9,c9,by omega,by go_num,by rw[HTk.out];exact hI9⟩
       case measure=>simp[intOf];omega
      .obtain rfl:k=s.tn:=by omega
       have hI2:CpI W1 (w.heap.size+1) g {S1 with ta:=a,tn:=s.tn,tc:=c} {e with ac:=[]} T wr:=by have h1:=hI;rw[h.tx.len.out,Be]at h1;rw[h.tx.len.out];exact h1
       clear hI;go_wp2;go_loopw [6] (fun i wr=>∃(k:Nat) (T:Nat->Nat) (a':Option Addr) (c':Nat),k<=s.an/\i=I J k/\CpI W1 (w.heap.size+1) g {S1 with ta:=a,tn:=s.tn,tc:=c,aa:=a',an:=k,ac:=c'} {e with ac:=e.ac.take k} T wr) (fun i _=>s.an-(intOf i).toNat)
       case atStart=>exact⟨0,T,O,0,Ad _,rfl,by rw[<-hS1]at hI2⊢;exact hI2⟩
       case round=>
        obtain⟨k,T,a',c',hk,rfl,hI⟩:=hrel;have x9w:=keep_cell hI.bel x9;have hbl:=aD x9w;by_cases hlt:k<s.an
        .obtain⟨g1,of1,an,nn,cn,haa,b0,b1,b2,b3,b4,b5,hA0,_⟩:=h.ac.act hlt;rw[haa]at x9 x9w;have HAA:=hid haa;clear haa;have HAk:=hid (bA4 e.ac k (by have:=h.ac.len.out;omega));have hAn:nn<=1048576:=by have h1:=hA0.ilen;have h2:=h.n10 k;have:=h1.out;omega
         have HAl:=hA0.ilen;generalize aM e.ac k=tt at b0 b1 b2 b3 b4 b5 hA0 HAk HAl;obtain⟨atx,ak,ap,aq,av,aan⟩:=tt;simp only at b0 b1 b2 b3 b4 b5 hA0 HAl;have hA:=fun W (hW:V' w W)=>hA0.below hW;have b0:=keep_cell kW b0;have b1:=keep_cell kW b1;have b2:=keep_cell kW b2;have b3:=keep_cell kW b3;have b4:=keep_cell kW b4;have b5:=keep_cell kW b5;go_wp2_with fail
         refine R0 (fun W'=>W'.cell? ⟨w.heap.size,9,O⟩=Y (Z (Y ⟨g1,of1,O⟩) s.an s.ac)/\W'.cell? ⟨g1,of1+k*6,O⟩=Y (I J atx)/\W'.cell? ⟨g1,of1+k*6+1,O⟩=Y (I J ak)/\W'.cell? ⟨g1,of1+k*6+2,O⟩=Y (I J ap)/\W'.cell? ⟨g1,of1+k*6+3,O⟩=Y (I J aq)/\W'.cell? ⟨g1,of1+k*6+4,O⟩=Y (I J av)/\W'.cell? ⟨g1,of1+k*6+5,O⟩=Y (Z an nn cn)/\V' W1 W') (⟨x9w,(keep_cell hI.bel b0:),(keep_cell hI.bel b1:),(keep_cell hI.bel b2:),(keep_cell hI.bel b3:),(keep_cell hI.bel b4:),(keep_cell hI.bel b5:),hI.bel.drew⟩) (fun hH=>?_);refine R5 0 2 3 4 5 ?_;refine R1 6 ?_;refine sF (d:=cwD) (E:=cwE) (L1:=#[A',A',A',A',A',A',A',A',A',F',F',F']) (fuel1:=3) (pre:=cwP) (R:=CwR a' k c' ⟨atx,ak,ap,aq,av,aan⟩ nn) (Bs:=fun T W=>CpI W1 (w.heap.size+1) g {S1 with ta:=a,tn:=s.tn,tc:=c,aa:=a',an:=k,ac:=c'} {e with ac:=e.ac.take k} T W) cA0 dC5 (by kernel_rfl) (by kernel_rfl) (by kernel_rfl) (by kernel_rfl) (by kernel_rfl) (by kernel_rfl) (by kernel_rfl) (CwR.mono a' k c' ⟨atx,ak,ap,aq,av,aan⟩ nn) ?bs3 ?step3 ?last3 T ?init3;case init3=>exact⟨hI.bel.drew,hI.old,hI.own.kept (fun k _ _=>jS),hI.box,hI.tag⟩
         case bs3=>intro T W hB;exact⟨keep_cell hB.bel x9,keep_cell hB.bel b0,keep_cell hB.bel b1,keep_cell hB.bel b2,keep_cell hB.bel b3,keep_cell hB.bel b4,keep_cell hB.bel b5,hB.bel⟩
         case step3=>
          intro i hi vs3 T W hB hp;unfold cwE at hi;simp only[Am,Cu,Eh]at hi;rcases hi with rfl|rfl|rfl
          .have hl:W.cell? ⟨g,9,O⟩=Y (Z a' k c'):=Ai _ g 9 _ _ _ hB.box;refine kP ⟨Y 71,.load 45 (.tmp 70),_,_,_,O⟩ (Z a' k c') (by rfl) cA0 dC5 (by kernel_rfl) rfl ?_ ?_
           .intro ev h1 h2;have s1:ev (.tmp 70)= .pointer (Y ⟨g,9,O⟩):=(h2 70 (by kernel_rfl)).trans rfl;clear h1 h2;go_simp
           .exact⟨_,T,rfl,rfl,fun k=>Kp.refl k T W,z',hB⟩
          .refine Dq rfl (fun K hK=>?_);refine tO (x:=.tmp 76) rfl rfl ((eG cwD vs3 76 cwE _ (by kernel_rfl)).trans rfl) (by go_simp) ?_;refine(aS1 atx ak ap aq av an nn cn aan _ (hA _ (kW.trans (hB.bel.mono kW.size))) hAn).mono ?_;rintro r W2⟨⟨a7,c7,rfl,ho⟩,hb⟩;exact⟨_,rfl,hK _ _ ⟨_,mrk T W.heap.size (2*k+11),rfl,⟨a7,c7,rfl,by rw[show(⟨atx,ak,ap,aq,av,aan⟩:Ac).an.length=nn from HAl.out.symm];exact OwnT.new ho (Ad _)⟩,fun k'=>aY hb T _ k',hb.size,hB.below hb _⟩⟩
          .obtain⟨a7,c7,e7,o7⟩:=hp 7 (by simp[cwP]);have hb:V' W (W.alloc (M #[I J atx,I J ak,I J ap,I J aq,I J av,Z a7 nn c7] 56)):=(Aa _ _).alloc z' _;refine wJ ⟨Y 78,.buildSlice 45 1 #[(0,.tmp 77)],_,_,_,O⟩ (Z (Y ⟨W.heap.size,0,O⟩) 1 1) (W.alloc (M #[I J atx,I J ak,I J ap,I J aq,I J av,Z a7 nn c7] 56)) (by rfl) cA0 dC5 (by kernel_rfl) rfl ?_ ?_
           .intro ev h1 h2;have s1:ev (.tmp 77)=_:=(h1 7 (by kernel_rfl)).trans e7;clear h1 h2;simp only at s1;go_simp
           .exact⟨_,mrk T W.heap.size 8,rfl,⟨a7,c7,W.heap.size,rfl,aP rfl,by unfold mrk;rw[if_neg (by omega)],o7.kept (aY hb T 8 _)⟩,fun k'=>aY hb T 8 k',hb.size,hB.below hb 8⟩
         case last3=>
          intro vs3 T W hB hR;have e1:vs3 1=Z a' k c':=hR 1 (by simp[cwE]);obtain⟨a7,c7,gb,e8,hgb,hTb,o7⟩:=hR 8 (by simp[cwE]);clear hR;obtain⟨us,hAc⟩:=hB.own.ac;obtain⟨cs,hr,hcs⟩:=hAc.row;have HCS:=hid hcs;clear hcs;have hN:=cT8 hgb;dsimp only[eB,cwE,List.foldl];simp only[Act.put,cwD,Bh,List.set_cons_zero,List.set_cons_succ];rw[e1,e8];refine R6 9 (fun K hK=>?_);refine lZ aI6 (.tmp 71) (.tmp 78) rfl rfl 0 (Z a' k c') k cs (Y ⟨gb,0,O⟩) 1 1 (acc6 ⟨atx,ak,ap,aq,av,aan⟩ (Z a7 nn c7)) rfl rfl hr.1 hN (sE _ _ _ _) (by omega) (Ad _) ?_;intro a9 c9 W9 o9 gr9 at9;have hI9:=CpI.act hB hAc hr HCS.out o7 (by show aan.length<=1048576;have:=HAl.out;omega) (by show k+1<=1048576;omega) o9 gr9 at9;have hb9:=(bJ hB.box hB.tag (dF gr9 (fun g hg=>hr.2 g hg) (by decide:1≠7))).1;have hB9:V' W1 W9:=cK hB.bel gr9 (fun k hk=>hB.ge (by rw[hr.2 k hk];decide) (by rw[hr.2 k hk];decide)) hB.bel.size;have y9:=Ai _ g 9 _ _ _ hb9;have w9:=An _ g 9 _ _ hb9;clear hb9 hAc hr HCS hN o9 gr9 at9;refine hK.out _ _ ?_ (fun hH=>?_)
          .exact⟨keep_cell hB9 x9,keep_cell hB9 b0,keep_cell hB9 b1,keep_cell hB9 b2,keep_cell hB9 b3,keep_cell hB9 b4,keep_cell hB9 b5,hB9⟩
          clear hK K;refine J3 ?_;refine R1 10 ?_;refine R6 11 (fun K hK=>?_);go_simp;refine hK.out _ _ ?_ (fun hH=>?_)
          .exact⟨keep_cell hI9.bel x9,keep_cell hI9.bel b0,keep_cell hI9.bel b1,keep_cell hI9.bel b2,keep_cell hI9.bel b3,keep_cell hI9.bel b4,keep_cell hI9.bel b5,hI9.bel⟩
          clear hK K;refine R7 ?_;go_wp2;go_roundw;case rel=>exact⟨k+1,_,a9,c9,by omega,by go_num,by rw[HAk.out];exact hI9⟩
          case measure=>simp[intOf];omega
        .obtain rfl:k=s.an:=by omega
         have hI3:CpI W1 (w.heap.size+1) g {S1 with ta:=a,tn:=s.tn,tc:=c,aa:=a',an:=s.an,ac:=c'} e T wr:=by have h1:=hI;rw[h.ac.len.out,Be]at h1;rw[h.ac.len.out];exact h1
         clear hI;have Hq':wr.heap[w.heap.size+1]? =Y (M #[Z O 0 0,Z O 0 0,Z O 0 0,Z O 0 0,Z O 0 0,Z O 0 0,Z O 0 0,X F',Z O 0 0,Z O 0 0] 68 (0,0)):=aR hI3.bel Hq;obtain⟨⟨z0,z1,z2,z3,z4,z5,z6,z7,z8,z9⟩,⟨f0,f1,f2,f3,f4,f5,f6,f7,f8,f9⟩⟩:=eK Hq';obtain⟨⟨y0,y1,y2,y3,y4,y5,y6,y7,y8,y9⟩,_⟩:=eK (show wr.heap[g]? =Y (M #[Z S1.ba S1.bn S1.bc,Z S1.la S1.ln S1.lc,Z S1.ka S1.kn S1.kc,Z a s.tn c,Z S1.sa S1.sn S1.sc,Z S1.oa S1.on S1.oc,Z S1.xa S1.xn S1.xc,X e.bt,Z S1.ma S1.mn S1.mc,Z a' s.an c'] 68 (0,0))from hI3.box);go_wp2;have hput:=aO4 (Z S1.ba S1.bn S1.bc) (Z S1.la S1.ln S1.lc) (Z S1.ka S1.kn S1.kc) (Z a s.tn c) (Z S1.sa S1.sn S1.sc) (Z S1.oa S1.on S1.oc) (Z S1.xa S1.xn S1.xc) (X e.bt) (Z S1.ma S1.mn S1.mc) (Z a' s.an c') Hq';have hTq:T (w.heap.size+1)=8:=(hI3.old _ (by omega)).trans (dC2 _);refine Ae (v:=U #[Z S1.ba S1.bn S1.bc,Z S1.la S1.ln S1.lc,Z S1.ka S1.kn S1.kc,Z a s.tn c,Z S1.sa S1.sn S1.sc,Z S1.oa S1.on S1.oc,Z S1.xa S1.xn S1.xc,X e.bt,Z S1.ma S1.mn S1.mc,Z a' s.an c']) (by simp[results,Tryz.results106,go_sem,z0,z1,z2,z3,z4,z5,z6,z7,z8,z9]) rfl ⟨⟨{S1 with ta:=a,tn:=s.tn,tc:=c,aa:=a',an:=s.an,ac:=c'},T,rfl,?_,?_⟩,?_⟩
         .exact hI3.own.kept (T':=T) (fun k _ h8=>gC hput.2 hTq h8)
         .intro x hx;rw[hI3.old x (by omega)];rfl
         .exact cK (kW.trans (hI3.bel.mono kW.size)) hput.2 (fun k hk=>by cases hk;omega) (by have:=kW.size;have:=hI3.bel.size;omega)
theorem aJ4{g:Nat}{u0 u1 u2 u3 u4 u5 u6:Value}(h:W.heap[g]? =Y (M #[u0,u1,u2,u3,u4,u5,u6] t (0,0))):W.cell? ⟨g,0,O⟩=Y u0/\W.cell? ⟨g,1,O⟩=Y u1/\W.cell? ⟨g,2,O⟩=Y u2/\W.cell? ⟨g,3,O⟩=Y u3/\W.cell? ⟨g,4,O⟩=Y u4/\W.cell? ⟨g,5,O⟩=Y u5/\W.cell? ⟨g,6,O⟩=Y u6:=
 ⟨C' h,C' h,C' h,C' h,C' h,C' h,C' h⟩
theorem bM0(zs:List Int):∀u∈bts zs,u.oneCell'=A':=by intro u hu;unfold bts at hu;obtain⟨z,_,rfl⟩:=Db.1 hu;rfl
theorem dK9{xs ys:List Int}(h:IsB xs)(h':bK9 ys):IsB (xs++ys):=by
 intro i;rcases Cd i xs.length with hi|hi
 .have:=h i;simpa[List.getD,Av hi]using this
 .have:=bD5 h' (i-xs.length);simpa[List.getD,Ay hi]using this
def lgD(j:Nat):Nat:=match j with|5=>9|_=>11
def lgE:List Nat:=[5,7]
def lgP(_:Nat):List Nat:=[]
theorem dF2:(lgE.all fun i=>lgE.all fun j=>lgD i !=lgD j||i==j)=A':=by kernel_rfl
theorem dN8:lgE.Nodup:=by decide
def LgR(s:EgS)(r:Rec)(j:Nat)(v:Value)(T:Nat->Nat)(w:World):Prop:=match j with
 |5=>v=Z s.oa s.on s.oc
 |_=>∃gp cp,v=Z (Y ⟨gp,0,O⟩) r.len cp/\OwnT w 0 T 8 5 1 (Z (Y ⟨gp,0,O⟩) r.len cp) r.len (bts r.bytes)
theorem LgR.mono(s:EgS)(r:Rec):∀j v T T' w w',LgR s r j v T w->(∀k,Kp k T T' w w')->w.heap.size<=w'.heap.size->LgR s r j v T' w':=by
 intro j v T T' w w' h hk _;unfold LgR at*;split at h
 .exact h
 .obtain⟨a,c,h1,h2⟩:=h;exact⟨a,c,h1,h2.kept (hk 8)⟩
def LogQ(T:Nat->Nat)(w:World)(b o:Nat)(cs:Array Value)(t:TypeId)(s:EgS)(e:Eng)(r:Ending)(w':World):Prop:=
 r=R' (.tuple #[])/\∃T' cs' a n c lo,EgX w' T' b o cs' t {s with oa:=a,on:=n,oc:=c} {e with lo:=lo}/\n<=s.on+11/\Stp T T' w w' o cs cs'
theorem pQ(kd tx ky:Int)(hd:Bool)(ol:Int)(hs:Bool)(nw:Int)(w:World)(T:Nat->Nat)(b o:Nat)(cs:Array Value)(t:TypeId)(s:EgS)(e:Eng)(h:EgX w T b o cs t s e)(fit:Rec.Fit ⟨kd,tx,ky,hd,ol,hs,nw⟩)(hn:s.on+11<=4100000):
  Calls prog 107 #[.pointer (Y ⟨b,o,O⟩),U #[I J kd,I J tx,I J ky,X hd,I J ol,X hs,I J nw]] w (LogQ T w b o cs t s e):=by
 have hlen:=(Rec.len_bd ⟨kd,tx,ky,hd,ol,hs,nw⟩).2;have hbl:=h.lt;go_enter func107,ntmps107
 go_wp2_with fail
 have hb1:V' w (w.alloc (M #[I J kd,I J tx,I J ky,X hd,I J ol,X hs,I J nw] 79)):=(Aa _ _).alloc z' _;have HR:(w.alloc (M #[I J kd,I J tx,I J ky,X hd,I J ol,X hs,I J nw] 79)).heap[w.heap.size]? =Y (M #[I J kd,I J tx,I J ky,X hd,I J ol,X hs,I J nw] 79 (0,0)):=aP rfl;have hX1:=h.below hb1 8;have hS1:=Stp.below (T:=T) o cs hb1 8;have hT1:mrk T w.heap.size 8 w.heap.size=8:=by unfold mrk;rw[if_neg (by omega)]
 generalize w.alloc (M #[I J kd,I J tx,I J ky,X hd,I J ol,X hs,I J nw] 79)=W1 at*;refine R0 (fun W'=>W'.cell? ⟨w.heap.size,0,O⟩=Y (I J kd)/\W'.cell? ⟨w.heap.size,1,O⟩=Y (I J tx)/\W'.cell? ⟨w.heap.size,2,O⟩=Y (I J ky)/\W'.cell? ⟨w.heap.size,3,O⟩=Y (X hd)/\W'.cell? ⟨w.heap.size,4,O⟩=Y (I J ol)/\W'.cell? ⟨w.heap.size,5,O⟩=Y (X hs)/\W'.cell? ⟨w.heap.size,6,O⟩=Y (I J nw)) (aJ4 HR) (fun hH=>?_);refine R5 0 1 2 3 4 ?_;refine R1 6 ?_;refine sF (d:=lgD) (E:=lgE) (L1:=#[A',A',A',A',A',A',A',A',F',F',F',F',F']) (fuel1:=5) (pre:=lgP) (R:=LgR s ⟨kd,tx,ky,hd,ol,hs,nw⟩) (Bs:=fun T' W=>EgX W T' b o cs t s e/\Stp T T' w W o cs cs/\W.heap[w.heap.size]? =Y (M #[I J kd,I J tx,I J ky,X hd,I J ol,X hs,I J nw] 79 (0,0))/\T' w.heap.size=8) dF2 dN8 (by kernel_rfl) (by kernel_rfl) (by kernel_rfl) (by kernel_rfl) (by kernel_rfl) (by kernel_rfl) (by kernel_rfl) (LgR.mono s ⟨kd,tx,ky,hd,ol,hs,nw⟩) ?bs ?step ?last (mrk T w.heap.size 8) ?init;case init=>exact⟨⟨hX1.own.kept (fun k _ _=>jS),hX1.box,hX1.cell,hX1.tag⟩,hS1.trans ⟨rfl,rfl,rfl,z',jS,jS,fun _ _=>rfl,rfl⟩,HR,hT1⟩
 case bs=>intro T' W hB;exact aJ4 hB.2.2.1
 case step=>
  intro i hi vs T' W hB hp;unfold lgE at hi;simp only[Am,Cu,Eh]at hi;rcases hi with rfl|rfl
  .obtain⟨_,_,_,_,_,y5,_,_,_,_⟩:=hB.1.all;refine kP ⟨Y 9,.load 22 (.tmp 8),_,_,_,O⟩ (Z s.oa s.on s.oc) (by rfl) dF2 dN8 (by kernel_rfl) rfl ?_ ?_
   .intro ev h1 h2;have s1:ev (.tmp 8)= .pointer (Y ⟨b,o+5,O⟩):=(h2 8 (by kernel_rfl)).trans rfl;clear h1 h2;go_simp
   .exact⟨_,T',rfl,rfl,fun k=>Kp.refl k T' W,z',hB⟩
  .refine Dq rfl (fun K hK=>?_);refine tO (x:=.tmp 10) rfl rfl ((eG lgD vs 10 lgE _ (by kernel_rfl)).trans rfl) (by go_simp) ?_;refine(qG kd tx ky hd ol hs nw _ fit).mono ?_;rintro r W2⟨gp,cp,rfl,ho,hb⟩;have hk:=fun k=>aY hb T' 8 k;obtain⟨h4,h5⟩:=bJ hB.2.2.1 hB.2.2.2 (hk 8);exact⟨_,rfl,hK _ _ ⟨_,mrk T' W.heap.size 8,rfl,⟨gp,cp,rfl,OwnT.new ho (Ad _)⟩,hk,hb.size,hB.1.below hb 8,hB.2.1.trans (Stp.below o cs hb 8),h4,h5⟩⟩
 case last=>
  intro vs T' W hB hR;have e5:vs 5=Z s.oa s.on s.oc:=hR 5 (by simp[lgE]);obtain⟨gp,cp,e7,o7⟩:=hR 7 (by simp[lgE]);clear hR;obtain⟨hX,hS,HR',hT'⟩:=hB;dsimp only[eB,lgE,List.foldl];simp only[Act.put,lgD,Bh,List.set_cons_zero,List.set_cons_succ];rw[e5,e7];refine R6 8 (fun K hK=>?_);refine lZ bA5 (.tmp 9) (.tmp 11) rfl rfl 0 (Z s.oa s.on s.oc) s.on (bts e.lo) (Y ⟨gp,0,O⟩) (Rec.len ⟨kd,tx,ky,hd,ol,hs,nw⟩) cp (bts (Rec.bytes ⟨kd,tx,ky,hd,ol,hs,nw⟩)) rfl rfl hX.own.lo.1 o7.cells (bM0 _) (by omega) (Ad _) ?_;intro a9 c9 W9 o9 gr9 at9;rw[show bts e.lo++bts (Rec.bytes ⟨kd,tx,ky,hd,ol,hs,nw⟩)=bts (e.lo++Rec.bytes ⟨kd,tx,ky,hd,ol,hs,nw⟩)by simp[bts]]at o9;have hO9:=OwnT.grown hX.own.lo o9 at9;have hE9:=hX.own.newLo (fun k _ _ h5=>dF gr9 (fun g hg=>hX.own.lo.2 g hg) h5) hO9 (dK9 hX.own.blo (Rec.all_bytes fit)) (by omega);obtain⟨hb9,ht9⟩:=bJ hX.box hX.tag (dF gr9 (fun g hg=>hX.own.lo.2 g hg) (by decide:1≠5));obtain⟨hr9,hr8⟩:=bJ HR' hT' (dF gr9 (fun g hg=>hX.own.lo.2 g hg) (by decide:8≠5));have hS9:=hS.trans (Stp.grown o cs gr9 (fun g hg=>hX.own.lo.2 g hg) (by decide) (by decide));have hset:=EgX.set (i:=5) (v:=Z a9 (s.on+Rec.len ⟨kd,tx,ky,hd,ol,hs,nw⟩) c9) hb9 hX.cell ht9 hE9 (by decide) rfl;have y5:=(Ai _ b (o+5) _ _ _ hb9).trans (hX.cell 5 (by decide));have f5:=An _ b (o+5) _ _ hb9;refine hK.out _ _ ?_ (fun hH=>?_)
  .exact aJ4 hr9
  clear hK K;refine J3 ?_;refine R3 9 10 11 ?_;refine R6 12 (fun K hK=>?_);go_simp;refine hK.out _ _ ?_ (fun hH=>?_)
  .exact aJ4 (bJ hr9 hr8 (kL ht9 (by decide:8≠1))).1
  clear hK K;refine R7 ?_;go_wp2;exact Er (Ek rfl _ _ _) rfl ⟨rfl,mrk T' W.heap.size 5,_,a9,s.on+Rec.len ⟨kd,tx,ky,hd,ol,hs,nw⟩,c9,e.lo++Rec.bytes ⟨kd,tx,ky,hd,ol,hs,nw⟩,hset.1,by omega,hS9.trans hset.2⟩
end Go.Proofs.YtpbbokalojdooaaGreat
