import Derived.Test.YtpbbokalojdooaaGreatQbc
namespace Go.Proofs.YtpbbokalojdooaaGreat
open Go.RowKit Ch Go.Proofs.Tryz
set_option linter.unusedSimpArgs false
set_option linter.unusedVariables false
set_option maxRecDepth 20000
set_option maxHeartbeats 8000000
open Value renaming int->I,slice->Z,bool->X,agg->U
open IntKind renaming i64->J
open Option renaming none->O,some->Y
open Obj renaming cells->M
open Ending renaming returned->R'
open Bool renaming true->A',false->F'
variable {C8 C9 cs:Array Value} {s:EgS} {e:Eng} {R:Int×List Int×List Row} {zs:List Int} {base:List Row} {news xs:List Value} {B b c' g j k o q sz:Nat} {T T':Nat->Nat} {us:Nat->Value} {A a' a6:Option Addr} {row:Option Nat} {t:TypeId} {u u0 u1 u2 u3 u4 u5 v x z:Value} {W W1 W6 w w' wr:World}
section
def AppT(t e:TypeId)(size:Nat):Prop:=∃i z bytes,prog.underlying t=Y (.slice e)/\prog.info? e=Y i/\i.zero=Y z/\i.size=size/\i.bytes=bytes/\z.cells.size=size/\0<size/\bytes<=1024
theorem AppT.of{e:TypeId}{size:Nat}{bytes:Nat}(h1:prog.underlying t=Y (.slice e))(h2:(prog.info? e).map (fun i=>(i.zero,i.size,i.bytes))=Y (Y z,size,bytes))(h3:(z.cells.size==size&&decide (0<size)&&decide (bytes<=1024))=A'):AppT t e size:=by obtain⟨i,hi,a1,a2,a3⟩:=info_parts h2;simp only[Bool.and_eq_true,beq_iff_eq,decide_eq_true_eq]at h3;exact⟨i,z,bytes,h1,hi,a1,a2,a3,h3.1.1,h3.1.2,h3.2⟩
theorem dI3:AppT 24 86 3:=AppT.of (z:=U #[I J 0,I J 0,X F']) (bytes:=24) (by kernel_rfl) (by kernel_rfl) (by kernel_rfl)
theorem dG1:AppT 66 265 2:=AppT.of (z:=U #[I J 0,I J 0]) (bytes:=16) (by kernel_rfl) (by kernel_rfl) (by kernel_rfl)
theorem uG:AppT 27 2 1:=AppT.of (z:=I J 0) (bytes:=8) (by kernel_rfl) (by kernel_rfl) (by kernel_rfl)
theorem aA0:AppT 22 5 1:=AppT.of (z:=I .u8 0) (bytes:=1) (by kernel_rfl) (by kernel_rfl) (by kernel_rfl)
theorem dE9:AppT 153 263 3:=AppT.of (z:=U #[I J 0,X F',I J 0]) (bytes:=24) (by kernel_rfl) (by kernel_rfl) (by kernel_rfl)
theorem dF0:AppT 63 155 8:=AppT.of (z:=U #[I J 0,X F',I J 0,Z O 0 0,I J 0,I J 0,I J 0,I J 0]) (bytes:=80) (by kernel_rfl) (by kernel_rfl) (by kernel_rfl)
theorem aT1:AppT 45 56 6:=AppT.of (z:=U #[I J 0,I J 0,I J 0,I J 0,I J 0,Z O 0 0]) (bytes:=64) (by kernel_rfl) (by kernel_rfl) (by kernel_rfl)
section
variable{ops:Array Oper}{rest:List Oper}{o:Oper}{a:Act}{w:World}{Q:Exit->Act->World->Prop}{K:Act->World->Prop}{E:Prop}{t e:TypeId}{size:Nat}
theorem vJ(hT:AppT t e size)(s x:Operand)(ho:o.op= .call {callee:=.builtin .append,args:=#[s,x],argTypes:=#[t,t]})(hgd:o.guard=O)
  (g:Nat) (A:Option Addr) (m c:Nat) (news:List Value) (hs:a.eval s=Z (Y ⟨g,0,O⟩) 0 0) (hx:a.eval x=Z A m c) (hc:CellsAt w A (m*size) news) (hn:m<=4194304)
  (hK:∀a' c' w',Below w.heap.size w w'->((m=0/\a'=Y ⟨g,0,O⟩/\c'=0/\w'=w)\/w'.ownsRow w.heap.size e size (Z a' m c') m news)->K (a.put o.dst (Z a' m c')) w'):
  if Region.wanted o (yielded ops a.tmps)=A' then Oper.wp prog o a w K Q else E:=by
 obtain⟨i,z,b,h1,h2,h3,h4,h5,h6,h7,h8⟩:=hT;exact cR5 h1 h1 h2 h3 h4 h5 h6 h7 h8 s x ho hgd g A m c news hs hx hc hn hK
theorem cX5(hT:AppT t e size)(s x:Operand)(ho:o.op= .call {callee:=.builtin .append,args:=#[s,x],argTypes:=#[t,t]})(hgd:o.guard=O)
  (g:Nat) (A:Option Addr) (m c:Nat) (news:List Value) (hs:a.eval s=Z (Y ⟨g,0,O⟩) 0 0) (hx:a.eval x=Z A m c) (hc:CellsAt w A (m*size) news) (hn:m<=4194304)
  (hK:∀a' c' w',Below w.heap.size w w'->((m=0/\a'=Y ⟨g,0,O⟩/\c'=0/\w'=w)\/w'.ownsRow w.heap.size e size (Z a' m c') m news)->wpList prog ops Q rest (a.put o.dst (Z a' m c')) w'):
  wpList prog ops Q (o::rest) a w:=by
 obtain⟨i,z,b,h1,h2,h3,h4,h5,h6,h7,h8⟩:=hT;exact bF0 h1 h1 h2 h3 h4 h5 h6 h7 h8 s x ho hgd g A m c news hs hx hc hn hK
theorem lH(hT:AppT t e size)(s x:Operand)(ho:o.op= .call {callee:=.builtin .append,args:=#[s,x],argTypes:=#[t,t]})(hgd:o.guard=O)
  (B:Nat) (v:Value) (n:Nat) (xs:List Value) (A:Option Addr) (m c:Nat) (news:List Value) (hs:a.eval s=v) (hx:a.eval x=Z A m c)
  (hown:w.ownsRow B e size v n xs) (hc:CellsAt w A (m*size) news) (h1:∀u∈news,u.oneCell'=A') (hn:n+m<=4194304) (hbase:B<=w.heap.size)
  (hK:∀a' c' w',w'.ownsRow B e size (Z a' (n+m) c') (n+m) (xs++news)->w.grownBy w' v.ownBlock->(∀g,(Z a' (n+m) c').ownBlock=Y g->v.ownBlock=Y g\/w.heap.size<=g)->K (a.put o.dst (Z a' (n+m) c')) w'):
  if Region.wanted o (yielded ops a.tmps)=A' then Oper.wp prog o a w K Q else E:=by
 obtain⟨i,z,b,g1,g2,g3,g4,g5,g6,g7,g8⟩:=hT;exact dK g1 g1 g2 g3 g4 g5 g6 g7 g8 s x ho hgd B v n xs A m c news hs hx hown hc h1 hn hbase hK
theorem aD8(hT:AppT t e size)(s x:Operand)(ho:o.op= .call {callee:=.builtin .append,args:=#[s,x],argTypes:=#[t,t]})(hgd:o.guard=O)
  (B:Nat) (v:Value) (n:Nat) (xs:List Value) (A:Option Addr) (m c:Nat) (news:List Value) (hs:a.eval s=v) (hx:a.eval x=Z A m c)
  (hown:w.ownsRow B e size v n xs) (hc:CellsAt w A (m*size) news) (h1:∀u∈news,u.oneCell'=A') (hn:n+m<=4194304) (hbase:B<=w.heap.size)
  (hK:∀a' c' w',w'.ownsRow B e size (Z a' (n+m) c') (n+m) (xs++news)->w.grownBy w' v.ownBlock->(∀g,(Z a' (n+m) c').ownBlock=Y g->v.ownBlock=Y g\/w.heap.size<=g)->wpList prog ops Q rest (a.put o.dst (Z a' (n+m) c')) w'):
  wpList prog ops Q (o::rest) a w:=by
 obtain⟨i,z,b,g1,g2,g3,g4,g5,g6,g7,g8⟩:=hT;exact bK g1 g1 g2 g3 g4 g5 g6 g7 g8 s x ho hgd B v n xs A m c news hs hx hown hc h1 hn hbase hK
end
end
theorem aY{o:Obj}(h:w.heap[g]? =Y o)(hT:T g=k)(hk:Kp k T T' w w'):w'.heap[g]? =Y o/\T' g=k:=by obtain⟨h1,h2⟩:=hk g (Array.getElem?_eq_some_iff.1 h).1 hT;exact⟨h1.trans h,h2⟩
theorem jN:Kp k T T w w.drew:=fun _ _ h=>⟨rfl,h⟩
theorem cJ{a:World}(h:Below B a w)(hg:w.grownBy w' row)(hr:∀k,row=Y k->B<=k)(hB:B<=w.heap.size):Below B a w':=
 ⟨hg.os.trans h.os,hg.tape.trans h.tape,hg.output.trans h.output,Nat.le_trans h.size hg.size,fun k hk=>by
  rcases Nat.lt_or_ge k w.heap.size with hlt|hge
  .exact(hg.block k hlt (fun e=>by have:=hr k e.symm;omega)).trans (h.block k hk)
  .omega⟩
def cpT(_:Nat):Nat->Nat:=fun _=>8
theorem cU4(q x:Nat):cpT q x=0\/cpT q x=8:=.inr rfl
theorem cU5(q:Nat):cpT q q=8:=rfl
structure CpI(W1:World)(q:Nat)(g:Nat)(s:EgS)(e:Eng)(T:Nat->Nat)(w:World):Prop where
 bel:Below W1.heap.size W1 w
 old:∀x,x<W1.heap.size->T x=cpT q x
 own:EgO w 0 T s e
 box:w.heap[g]? =Y (M (s.cells e.bt) 68 (0,0))
 tag:T g=1
theorem fB{H x:Nat}(h:x<H):mrk T H j x=T x:=by unfold mrk;rw[if_pos h]
theorem CpI.below(h:CpI W1 q g s e T w)(hb:Below w.heap.size w w')(j:Nat):CpI W1 q g s e (mrk T w.heap.size j) w':=by have hk:=fun k=>bJ hb T j k;obtain⟨h4,h5⟩:=aY h.box h.tag (hk 1);exact⟨h.bel.trans (hb.mono h.bel.size),fun x hx=>by rw[fB (by have:=h.bel.size;omega)];exact h.old x hx,h.own.kept (fun k _ _=>hk k),h4,h5⟩
theorem CpI.set8(h:CpI W1 q g s e T w)(hT:T b=8)(hb:W1.heap.size<=b):CpI W1 q g s e T (w.setCell ⟨b,o,O⟩ v):=by have hk:∀k,k≠8->Kp k T T w (w.setCell ⟨b,o,O⟩ v):=fun k hk=>pR hT hk;obtain⟨h4,h5⟩:=aY h.box h.tag (hk 1 (by omega));exact⟨h.bel.setCell hb _,h.old,h.own.kept (fun k _ h8=>hk k h8),h4,h5⟩
theorem CpI.ge(h:CpI W1 q g s e T w){x:Nat}(hx:T x≠0)(hx8:T x≠8):W1.heap.size<=x:=by
 rcases Nat.lt_or_ge x W1.heap.size with hlt|hge
 .have:=h.old x hlt;rcases cU4 q x with h1|h1
  .exact absurd (this.trans h1) hx
  .exact absurd (this.trans h1) hx8
 .exact hge
theorem CpI.txn{cs:List Value}{t:Tx}(h:CpI W1 q g s e T w)(hu:TxO w 0 T (Z s.ta s.tn s.tc) s.tn e.tx us)
  (hr:OwnT w 0 T 2 155 8 (Z s.ta s.tn s.tc) s.tn cs) (hc:∀i j,i<s.tn->j<8->cs[i*8+j]? =Y (tx8 (aQ e.tx i) (us i) j))
  (hx:OwnT w 0 T (2*s.tn+10) 263 3 x t.un.length (bfcells t.un)) (hft:t.un.length<=1048576) (hn:s.tn+1<=1048576)
  (ho:w'.ownsRow 0 155 8 (Z a' (s.tn+1) c') (s.tn+1) (cs++txc t x)) (hg:w.grownBy w' (Z s.ta s.tn s.tc).ownBlock) (hat:∀g,(Z a' (s.tn+1) c').ownBlock=Y g->(Z s.ta s.tn s.tc).ownBlock=Y g\/w.heap.size<=g):
  CpI W1 q g {s with ta:=a',tn:=s.tn+1,tc:=c'} {e with tx:=e.tx++[t]} (mrk T w.heap.size 2) (w'.setCell ⟨g,3,O⟩ (Z a' (s.tn+1) c')):=by
 have k1:∀k,k≠2->Kp k T (mrk T w.heap.size 2) w w':=fun k hk=>dS hg (fun g hgg=>hr.2 g hgg) hk;obtain⟨h4,h5⟩:=aY h.box h.tag (k1 1 (by omega));have k2:∀k,k≠1->Kp k (mrk T w.heap.size 2) (mrk T w.heap.size 2) w' (w'.setCell ⟨g,3,O⟩ (Z a' (s.tn+1) c')):=fun k hk=>pR h5 hk;have k3:∀k,k≠1->k≠2->Kp k T (mrk T w.heap.size 2) w (w'.setCell ⟨g,3,O⟩ (Z a' (s.tn+1) c')):=fun k h1 h2=>(k1 k h2).trans (k2 k h1) hg.size;have hr':=(OwnT.grown hr ho hat).kept (k2 2 (by omega));have hT:=TxO.snoc (t:=t) (x:=x) hu.len hr.1.1 hc hr' (fun i hi=>(hu.un i hi).kept (k3 _ (by omega) (by omega))) (hx.kept (k3 _ (by omega) (by omega))) hu.few hft;have hb:Below W1.heap.size W1 (w'.setCell ⟨g,3,O⟩ (Z a' (s.tn+1) c')):=(cJ h.bel hg (fun k hk=>h.ge (by rw[hr.2 k hk];decide) (by rw[hr.2 k hk];decide)) h.bel.size).setCell (h.ge (by rw[h.tag];decide) (by rw[h.tag];decide)) _;refine⟨hb,fun x hx=>by rw[fB (by have:=h.bel.size;omega)];exact h.old x hx,h.own.newTx (fun k h1 _ h2 _=>k3 k h1 h2) hT hn,?_,h5⟩;have h6:=heap_setCell_same w' g 3 _ _ (Z a' (s.tn+1) c') h4;exact h6
theorem CpI.act{cs:List Value}{t:Ac}(h:CpI W1 q g s e T w)(hu:AcO w 0 T (Z s.aa s.an s.ac) s.an e.ac us)
  (hr:OwnT w 0 T 7 56 6 (Z s.aa s.an s.ac) s.an cs) (hc:∀i j,i<s.an->j<6->cs[i*6+j]? =Y (ac6 (eK e.ac i) (us i) j))
  (hx:OwnT w 0 T (2*s.an+11) 2 1 x t.an.length (icells t.an)) (hft:t.an.length<=1048576) (hn:s.an+1<=1048576)
  (ho:w'.ownsRow 0 56 6 (Z a' (s.an+1) c') (s.an+1) (cs++acc6 t x)) (hg:w.grownBy w' (Z s.aa s.an s.ac).ownBlock) (hat:∀g,(Z a' (s.an+1) c').ownBlock=Y g->(Z s.aa s.an s.ac).ownBlock=Y g\/w.heap.size<=g):
  CpI W1 q g {s with aa:=a',an:=s.an+1,ac:=c'} {e with ac:=e.ac++[t]} (mrk T w.heap.size 7) (w'.setCell ⟨g,9,O⟩ (Z a' (s.an+1) c')):=by
 have k1:∀k,k≠7->Kp k T (mrk T w.heap.size 7) w w':=fun k hk=>dS hg (fun g hgg=>hr.2 g hgg) hk;obtain⟨h4,h5⟩:=aY h.box h.tag (k1 1 (by omega));have k2:∀k,k≠1->Kp k (mrk T w.heap.size 7) (mrk T w.heap.size 7) w' (w'.setCell ⟨g,9,O⟩ (Z a' (s.an+1) c')):=fun k hk=>pR h5 hk;have k3:∀k,k≠1->k≠7->Kp k T (mrk T w.heap.size 7) w (w'.setCell ⟨g,9,O⟩ (Z a' (s.an+1) c')):=fun k h1 h2=>(k1 k h2).trans (k2 k h1) hg.size;have hr':=(OwnT.grown hr ho hat).kept (k2 7 (by omega));have hT:=AcO.snoc (t:=t) (x:=x) hu.len hr.1.1 hc hr' (fun i hi=>(hu.an i hi).kept (k3 _ (by omega) (by omega))) (hx.kept (k3 _ (by omega) (by omega))) hu.few hft;have hb:Below W1.heap.size W1 (w'.setCell ⟨g,9,O⟩ (Z a' (s.an+1) c')):=(cJ h.bel hg (fun k hk=>h.ge (by rw[hr.2 k hk];decide) (by rw[hr.2 k hk];decide)) h.bel.size).setCell (h.ge (by rw[h.tag];decide) (by rw[h.tag];decide)) _;refine⟨hb,fun x hx=>by rw[fB (by have:=h.bel.size;omega)];exact h.old x hx,h.own.newAc (fun k h1 _ h2 _=>k3 k h1 h2) hT hn,?_,h5⟩;have h6:=heap_setCell_same w' g 9 _ _ (Z a' (s.an+1) c') h4;exact h6
theorem dB6{t:Tx}{nu c6:Nat}(h:CpI W1 q g s e T wr)
  (hb6:Below ((wr.alloc (M C8 155)).alloc (M #[] 263)).heap.size ((wr.alloc (M C8 155)).alloc (M #[] 263)) W6)
  (hO:W6.ownsRow (wr.heap.size+1) 263 3 (Z a6 nu c6) nu (bfcells t.un)) (hu:Hid (nu=t.un.length)):
  ∃T8,CpI W1 q g s e T8 ((W6.setCell ⟨wr.heap.size,3,O⟩ (Z a6 nu c6)).alloc (M C9 155))/\OwnT ((W6.setCell ⟨wr.heap.size,3,O⟩ (Z a6 nu c6)).alloc (M C9 155)) 0 T8 (2*s.tn+10) 263 3 (Z a6 nu c6) t.un.length (bfcells t.un):=by
 have bA:=f' wr (M C8 155);have hsA:(wr.alloc (M C8 155)).heap.size=wr.heap.size+1:=by simp
 have b6:Below (wr.alloc (M C8 155)).heap.size (wr.alloc (M C8 155)) W6:=(q').trans (hb6.mono (by simp));have h6:=(h.below bA 8).below b6 (2*s.tn+10);have hx6:OwnT W6 0 (mrk (mrk T wr.heap.size 8) (wr.alloc (M C8 155)).heap.size (2*s.tn+10)) (2*s.tn+10) 263 3 (Z a6 nu c6) t.un.length (bfcells t.un):=by rw[<-hu.out];exact OwnT.new (by rw[hsA];exact hO) (Nat.zero_le _)
 have hT:mrk (mrk T wr.heap.size 8) (wr.alloc (M C8 155)).heap.size (2*s.tn+10) wr.heap.size=8:=by rw[fB (by rw[hsA];omega)];unfold mrk;rw[if_neg (by omega)]
 generalize mrk (mrk T wr.heap.size 8) (wr.alloc (M C8 155)).heap.size (2*s.tn+10)=T6 at*;have h7:=h6.set8 (o:=3) (v:=Z a6 nu c6) hT h.bel.size;have hx7:=hx6.kept (pR (w:=W6) (o:=3) (v:=Z a6 nu c6) hT (by omega:2*s.tn+10≠8));have b8:Below (W6.setCell ⟨wr.heap.size,3,O⟩ (Z a6 nu c6)).heap.size (W6.setCell ⟨wr.heap.size,3,O⟩ (Z a6 nu c6)) ((W6.setCell ⟨wr.heap.size,3,O⟩ (Z a6 nu c6)).alloc (M C9 155)):=q';exact⟨_,h7.below b8 8,hx7.kept (bJ b8 _ 8 _)⟩
theorem cU6{W5:World}(h:CpI W1 q g s e T wr)(k5:Below wr.heap.size wr W5)(hb6:Below W5.heap.size W5 W6):W6.heap[g]? =Y (M (s.cells e.bt) 68 (0,0)):=
 aR hb6 (aR k5 h.box)
theorem aY2(ts:List Ac)(k:Nat)(h:k<ts.length):ts.take (k+1)=ts.take k++[eK ts k]:=by rw[List.take_add_one,List.getElem?_eq_getElem h];simp[eK,List.getD,h]
theorem cJ5(w:World)(t:Tx)(x:Value):CellsAt (w.alloc (M #[I J t.id,X t.sy,I J t.st,x,I J t.wk,I J t.wa,I J t.wb,I J t.wv] 155)) (Y ⟨w.heap.size,0,O⟩) (1*8) (txc t x):=by refine⟨rfl,fun _=>⟨_,_,rfl,fun i hi=>?_⟩⟩;rw[cell_of_row _ _ _ _ _ _ (aO (w:=w) (o:=M #[I J t.id,X t.sy,I J t.st,x,I J t.wk,I J t.wa,I J t.wb,I J t.wv] 155) rfl),Nat.zero_add];simp[txc]
theorem zK(w:World)(t:Ac)(x:Value):CellsAt (w.alloc (M #[I J t.tx,I J t.k,I J t.a,I J t.b,I J t.v,x] 56)) (Y ⟨w.heap.size,0,O⟩) (1*6) (acc6 t x):=by refine⟨rfl,fun _=>⟨_,_,rfl,fun i hi=>?_⟩⟩;rw[cell_of_row _ _ _ _ _ _ (aO (w:=w) (o:=M #[I J t.tx,I J t.k,I J t.a,I J t.b,I J t.v,x] 56) rfl),Nat.zero_add];simp[acc6]
theorem cK4(t:Tx)(a:Option Addr)(n c:Nat):∀u∈txc t (Z a n c),u.oneCell'=A':=by intro u hu;simp only[txc,List.mem_cons,List.not_mem_nil,or_false]at hu;rcases hu with rfl|rfl|rfl|rfl|rfl|rfl|rfl|rfl<;>rfl
theorem rI(t:Ac)(a:Option Addr)(n c:Nat):∀u∈acc6 t (Z a n c),u.oneCell'=A':=by intro u hu;simp only[acc6,List.mem_cons,List.not_mem_nil,or_false]at hu;rcases hu with rfl|rfl|rfl|rfl|rfl|rfl<;>rfl
def oT(base:List Row)(zs:List Int):Int×List Int×List Row:=if 4000<zs.length then(2,[],[])else mO base (aU zs)
theorem sE(h:4000<zs.length):oT base zs=(2,[],[]):=if_pos h
theorem rF(h:¬4000<zs.length):oT base zs=mO base (aU zs):=if_neg h
theorem RedoAt.alloc{e:Ending}{a1 a2:Option Addr}{m1 c1 m2 c2:Nat}(h:RedoAt w W e R a1 m1 c1 a2 m2 c2)(o:Obj):RedoAt w (W.alloc o) e R a1 m1 c1 a2 m2 c2:=
 ⟨h.ret,h.b1,h.b2,h.o1.alloc _,h.o2.alloc _,h.ap,h.bl.alloc h.bl.size _⟩
theorem aO0{W0:World}{a3 a4:Option Addr}{m3 c3 m4 c4:Nat}{e:Ending}(h:RedoAt W0 W e R a3 m3 c3 a4 m4 c4)(hb:Below w.heap.size w W)(hs:w.heap.size<W0.heap.size):
  RedoAt w (((W.setCell ⟨w.heap.size,0,O⟩ (I J R.1)).setCell ⟨w.heap.size,1,O⟩ (Z a3 m3 c3)).setCell ⟨w.heap.size,2,O⟩ (Z a4 m4 c4)) (R' (U #[I J R.1,Z a3 m3 c3,Z a4 m4 c4])) R a3 m3 c3 a4 m4 c4:=by
 refine⟨rfl,h.b1,h.b2,?_,?_,h.ap,?_⟩
 .refine aP (base:=W0.heap.size) (ownsRow_setCell_below (ownsRow_setCell_below (ownsRow_setCell_below h.o1 ?_ _) ?_ _) ?_ _) (by omega);all_goals(show w.heap.size<W0.heap.size;omega)
 .refine aP (base:=W0.heap.size) (ownsRow_setCell_below (ownsRow_setCell_below (ownsRow_setCell_below h.o2 ?_ _) ?_ _) ?_ _) (by omega);all_goals(show w.heap.size<W0.heap.size;omega)
 .exact((hb.setCell (p:=⟨w.heap.size,0,O⟩) z' _).setCell (p:=⟨w.heap.size,1,O⟩) z' _).setCell (p:=⟨w.heap.size,2,O⟩) z' _
theorem wU(a1:Option Addr)(n1 c1:Nat)(base:List Row)(a2:Option Addr)(n2 c2:Nat)(zs:List Int)(w:World)(h1:CellsAt w a1 (n1*3) (rcells base))(h2:CellsAt w a2 n2 (bts zs))(hb:IsB zs)(hn1:n1<=1048576)(hn2:n2<=1048576)(hcap:n2<=c2):
  Calls prog 7 #[Z a1 n1 c1,Z a2 n2 c2] w fun e w'=>∃a3 m3 c3 a4 m4 c4,RedoAt w w' e (oT base zs) a3 m3 c3 a4 m4 c4:=by
 have HL:=h2.len;have kA:∀o,Below w.heap.size w (w.alloc o):=fun o=>u'.alloc z' o;by_cases hbig:4000<n2
 .have HE:=hid (sE (base:=base) (zs:=zs) (by have:=HL.out;omega));rw[HE.out];have IR:=fun W=>bA5 a2 n2 c2 W hbig (by omega);clear HE;go_enter func7,ntmps7
  go_wp2_with fail
  refine(IR _).mono ?_;rintro e w1⟨rfl,b1⟩;have hR:=aT b1 (heap_alloc_new w _);have b1:=cL b1;have lz:=(Array.getElem?_eq_some_iff.1 hR).1;obtain⟨x0,x1,x2,f0,f1,f2⟩:=oO hR;clear IR;go_wp2;exact bodyPost_ret (v:=U #[I J 2,Z O 0 0,Z O 0 0]) (by simp[results,Tryz.results7,go_sem,x0,x1,x2,lz]) rfl ⟨O,0,0,O,0,0,(rX b1).alloc _⟩
 .have HE:=hid (rF (base:=base) (zs:=zs) (by have:=HL.out;omega));rw[HE.out];have hrl:5*(aU zs).length<=n2:=Nat.le_trans (pZ zs) (by have:=rZ zs;have:=HL.out;omega);have IR:=fun W hW=>aC8 a2 n2 c2 zs W hW hb (by omega) hcap;have IQ:=fun(A:Option Addr) (C:Nat) (W:World) hW1 hW2=>zB a1 n1 c1 base A (aU zs).length C (aU zs) W hW1 hW2 hn1 (by omega);generalize hRR:mO base (aU zs)=RR at*;generalize hrd:(aU zs).length=p at*;generalize hrs:aU zs=rs at*;generalize fJ zs=u at*;clear HE hRR hrs;go_enter func7,ntmps7
  go_wp2_with fail
  refine(IR _ (h2.below (kA _))).mono ?_;rintro e w1⟨a',c',rfl,o1,b1⟩;have hR:=aT b1 (heap_alloc_new w _);have lz0:=(Array.getElem?_eq_some_iff.1 hR).1;have b1:=cL b1;clear IR;have k1:=f' w1 (M #[I J 0,I J u,Z a' p c'] 33);have o1:=aF o1 k1;have hR:=aT k1 hR;have b1:=b1.trans (k1.mono b1.size);have IQ:=IQ a' c' _ (h1.below b1) (aJ o1);go_wp2_with fail
  refine IQ.mono ?_;rintro e w2⟨a3,m3,c3,a4,m4,c4,hra⟩;clear IQ;have hR:=aT hra.bl hR;have b2:=b1.trans (hra.bl.mono b1.size);have hf:=aO0 hra b2 (by simp;omega);have hret:=hra.ret;subst hret;have lz:=(Array.getElem?_eq_some_iff.1 hR).1;obtain⟨x0,x1,x2,f0,f1,f2⟩:=oO hR;clear hra;go_wp2;exact bodyPost_ret (v:=U #[I J RR.1,Z a3 m3 c3,Z a4 m4 c4]) (by simp[results,Tryz.results7,go_sem,x0,x1,x2]) rfl ⟨a3,m3,c3,a4,m4,c4,hf⟩
theorem aS4(a1:Option Addr)(n1 c1:Nat)(base:List Row)(a2:Option Addr)(n2 c2:Nat)(zs:List Int)(w:World)(h1:CellsAt w a1 (n1*3) (rcells base))(h2:CellsAt w a2 n2 (bts zs))(hb:IsB zs)(hn1:n1<=1048576)(hn2:n2<=1048576)(hcap:n2<=c2):
  Calls prog 8 #[Z a1 n1 c1,Z a2 n2 c2] w fun e w'=>∃a3 m3 c3 a4 m4 c4,RedoAt w w' e (oT base zs) a3 m3 c3 a4 m4 c4:=by
 have HL:=h2.len;have kA:∀o,Below w.heap.size w (w.alloc o):=fun o=>u'.alloc z' o;by_cases hbig:4000<n2
 .have HE:=hid (sE (base:=base) (zs:=zs) (by have:=HL.out;omega));rw[HE.out];have i1:(4000:Int)<(n2:Int):=by omega
  obtain⟨x0,x1,x2,f0,f1,f2⟩:=oO (heap_alloc_new w (M #[I J 0,Z O 0 0,Z O 0 0] 29));clear HE;go_enter func8,ntmps8
  go_wp2;refine bodyPost_ret (v:=U #[I J 2,Z O 0 0,Z O 0 0]) (by simp[results,Tryz.results8,go_sem]) rfl ⟨O,0,0,O,0,0,rfl,by omega,by omega,World.ownsRow_nil _ _ _ _,World.ownsRow_nil _ _ _ _,fun g hg=>by simp[Value.ownBlock]at hg,kA _⟩
 .have HE:=hid (rF (base:=base) (zs:=zs) (by have:=HL.out;omega));rw[HE.out];have i1:¬(4000:Int)<(n2:Int):=by omega
  have hrl:5*(aU zs).length<=n2:=Nat.le_trans (pZ zs) (by have:=rZ zs;have:=HL.out;omega);have IR:=fun W hW=>xP a2 n2 c2 zs W hW hb hn2 hcap;have IQ:=fun(A:Option Addr) (C:Nat) (W:World) hW1 hW2=>bD8 a1 n1 c1 base A (aU zs).length C (aU zs) W hW1 hW2 hn1 (by omega);generalize hRR:mO base (aU zs)=RR at*;generalize hrd:(aU zs).length=p at*;generalize hrs:aU zs=rs at*;generalize fJ zs=u at*;clear HE hRR hrs;go_enter func8,ntmps8
  go_wp2_with fail
  refine(IR _ (h2.below (kA _))).mono ?_;rintro e w1⟨g',c',rfl,o1,b1⟩;have hR:=aT b1 (heap_alloc_new w _);have lz0:=(Array.getElem?_eq_some_iff.1 hR).1;have b1:=cL b1;clear IR;have IQ:=IQ (Y ⟨g',0,O⟩) c' _ (h1.below b1) (aJ o1);go_wp2_with fail
  refine IQ.mono ?_;rintro e w2⟨a3,m3,c3,a4,m4,c4,hra⟩;clear IQ;have hR:=aT hra.bl hR;have b2:=b1.trans (hra.bl.mono b1.size);have hf:=aO0 hra b2 lz0;have hret:=hra.ret;subst hret;have lz:=(Array.getElem?_eq_some_iff.1 hR).1;obtain⟨x0,x1,x2,f0,f1,f2⟩:=oO hR;clear hra;go_wp2;exact bodyPost_ret (v:=U #[I J RR.1,Z a3 m3 c3,Z a4 m4 c4]) (by simp[results,Tryz.results8,go_sem,x0,x1,x2]) rfl ⟨a3,m3,c3,a4,m4,c4,hf⟩
theorem cU2(h:W.heap[g]? =Y (M #[u0,u1,u2,u3,u4,u5] t (0,0))):(W.cell? ⟨g,0,O⟩=Y u0/\W.cell? ⟨g,1,O⟩=Y u1/\W.cell? ⟨g,2,O⟩=Y u2/\W.cell? ⟨g,3,O⟩=Y u3/\W.cell? ⟨g,4,O⟩=Y u4/\W.cell? ⟨g,5,O⟩=Y u5)/\(W.frozen? ⟨g,0,O⟩=F'/\W.frozen? ⟨g,1,O⟩=F'/\W.frozen? ⟨g,2,O⟩=F'/\W.frozen? ⟨g,3,O⟩=F'/\W.frozen? ⟨g,4,O⟩=F'/\W.frozen? ⟨g,5,O⟩=F'):=
 ⟨⟨cell_of_row _ _ _ _ _ _ h,cell_of_row _ _ _ _ _ _ h,cell_of_row _ _ _ _ _ _ h,cell_of_row _ _ _ _ _ _ h,cell_of_row _ _ _ _ _ _ h,cell_of_row _ _ _ _ _ _ h⟩,⟨frozen_of_row _ _ _ _ _ h,frozen_of_row _ _ _ _ _ h,frozen_of_row _ _ _ _ _ h,frozen_of_row _ _ _ _ _ h,frozen_of_row _ _ _ _ _ h,frozen_of_row _ _ _ _ _ h⟩⟩
theorem bV5{u6 u7:Value}(h:W.heap[g]? =Y (M #[u0,u1,u2,u3,u4,u5,u6,u7] t (0,0))):(W.cell? ⟨g,0,O⟩=Y u0/\W.cell? ⟨g,1,O⟩=Y u1/\W.cell? ⟨g,2,O⟩=Y u2/\W.cell? ⟨g,3,O⟩=Y u3/\W.cell? ⟨g,4,O⟩=Y u4/\W.cell? ⟨g,5,O⟩=Y u5/\W.cell? ⟨g,6,O⟩=Y u6/\W.cell? ⟨g,7,O⟩=Y u7)/\(W.frozen? ⟨g,0,O⟩=F'/\W.frozen? ⟨g,1,O⟩=F'/\W.frozen? ⟨g,2,O⟩=F'/\W.frozen? ⟨g,3,O⟩=F'/\W.frozen? ⟨g,4,O⟩=F'/\W.frozen? ⟨g,5,O⟩=F'/\W.frozen? ⟨g,6,O⟩=F'/\W.frozen? ⟨g,7,O⟩=F'):=
 ⟨⟨cell_of_row _ _ _ _ _ _ h,cell_of_row _ _ _ _ _ _ h,cell_of_row _ _ _ _ _ _ h,cell_of_row _ _ _ _ _ _ h,cell_of_row _ _ _ _ _ _ h,cell_of_row _ _ _ _ _ _ h,cell_of_row _ _ _ _ _ _ h,cell_of_row _ _ _ _ _ _ h⟩,⟨frozen_of_row _ _ _ _ _ h,frozen_of_row _ _ _ _ _ h,frozen_of_row _ _ _ _ _ h,frozen_of_row _ _ _ _ _ h,frozen_of_row _ _ _ _ _ h,frozen_of_row _ _ _ _ _ h,frozen_of_row _ _ _ _ _ h,frozen_of_row _ _ _ _ _ h⟩⟩
theorem jK{u6 u7 u8 u9:Value}(h:W.heap[g]? =Y (M #[u0,u1,u2,u3,u4,u5,u6,u7,u8,u9] t (0,0))):(W.cell? ⟨g,0,O⟩=Y u0/\W.cell? ⟨g,1,O⟩=Y u1/\W.cell? ⟨g,2,O⟩=Y u2/\W.cell? ⟨g,3,O⟩=Y u3/\W.cell? ⟨g,4,O⟩=Y u4/\W.cell? ⟨g,5,O⟩=Y u5/\W.cell? ⟨g,6,O⟩=Y u6/\W.cell? ⟨g,7,O⟩=Y u7/\W.cell? ⟨g,8,O⟩=Y u8/\W.cell? ⟨g,9,O⟩=Y u9)/\(W.frozen? ⟨g,0,O⟩=F'/\W.frozen? ⟨g,1,O⟩=F'/\W.frozen? ⟨g,2,O⟩=F'/\W.frozen? ⟨g,3,O⟩=F'/\W.frozen? ⟨g,4,O⟩=F'/\W.frozen? ⟨g,5,O⟩=F'/\W.frozen? ⟨g,6,O⟩=F'/\W.frozen? ⟨g,7,O⟩=F'/\W.frozen? ⟨g,8,O⟩=F'/\W.frozen? ⟨g,9,O⟩=F'):=
 ⟨⟨cell_of_row _ _ _ _ _ _ h,cell_of_row _ _ _ _ _ _ h,cell_of_row _ _ _ _ _ _ h,cell_of_row _ _ _ _ _ _ h,cell_of_row _ _ _ _ _ _ h,cell_of_row _ _ _ _ _ _ h,cell_of_row _ _ _ _ _ _ h,cell_of_row _ _ _ _ _ _ h,cell_of_row _ _ _ _ _ _ h,cell_of_row _ _ _ _ _ _ h⟩,⟨frozen_of_row _ _ _ _ _ h,frozen_of_row _ _ _ _ _ h,frozen_of_row _ _ _ _ _ h,frozen_of_row _ _ _ _ _ h,frozen_of_row _ _ _ _ _ h,frozen_of_row _ _ _ _ _ h,frozen_of_row _ _ _ _ _ h,frozen_of_row _ _ _ _ _ h,frozen_of_row _ _ _ _ _ h,frozen_of_row _ _ _ _ _ h⟩⟩
theorem aT2{m c:Nat}(hc:w.heap[g]? =Y (M #[] t (0,0)))(hB:B<=g)(hl:news.length=m*sz)
  (h:(m=0/\A=Y ⟨g,0,O⟩/\c=0/\w'=w)\/w'.ownsRow w.heap.size t sz (Z A m c) m news):w'.ownsRow B t sz (Z A m c) m news:=by
 have hlt:=(Array.getElem?_eq_some_iff.1 hc).1;rcases h with⟨rfl,rfl,rfl,rfl⟩|h
 .refine⟨by omega,.inr ⟨g,0,#[],rfl,hB,hc,by omega,by unfold maxLen;omega,by simp,?_⟩⟩;have:news=[]:=List.eq_nil_of_length_eq_zero (by omega);simp[this]
 .exact aP h (by omega)
theorem nM{n:Nat}(h:w.ownsRow B t sz v n xs)(hg:g<B):(w.setCell ⟨g,o,O⟩ u).ownsRow B t sz v n xs:=
 aK h nI fun g' hg' he=>by have:=(aG h g' hg').1;simp at he;omega
theorem aQ5(tx k p q v:Int)(an:Option Addr)(nn cn:Nat)(zs:List Int)(w:World)(h:CellsAt w an (nn*1) (icells zs))(hn:nn<=1048576):
  Calls prog 148 #[U #[I J tx,I J k,I J p,I J q,I J v,Z an nn cn]] w fun r w'=>(∃a' c',r=R' (U #[I J tx,I J k,I J p,I J q,I J v,Z a' nn c'])/\w'.ownsRow w.heap.size 2 1 (Z a' nn c') nn (icells zs))/\Below w.heap.size w w':=by
 have hlen:(icells zs).length=nn*1:=h.1;go_enter func148,ntmps148
 have P0:=((dJ (o:=M #[] 2) (show w.heap.size<((w.alloc (M #[I J tx,I J k,I J p,I J q,I J v,Z an nn cn] 56)).alloc (M #[I J 0,I J 0,I J 0,I J 0,I J 0,Z O 0 0] 56)).heap.size by simp;omega)).trans ((dJ (by simp)).trans (aO rfl)))
 have P1:=((dJ (o:=M #[] 2) (show w.heap.size+1<((w.alloc (M #[I J tx,I J k,I J p,I J q,I J v,Z an nn cn] 56)).alloc (M #[I J 0,I J 0,I J 0,I J 0,I J 0,Z O 0 0] 56)).heap.size by simp)).trans (aO (by simp)))
 have P2:(((w.alloc (M #[I J tx,I J k,I J p,I J q,I J v,Z an nn cn] 56)).alloc (M #[I J 0,I J 0,I J 0,I J 0,I J 0,Z O 0 0] 56)).alloc (M #[] 2)).heap[w.heap.size+1+1]? =Y (M #[] 2 (0,0)):=aO (by simp);have kE:Below w.heap.size w (((w.alloc (M #[I J tx,I J k,I J p,I J q,I J v,Z an nn cn] 56)).alloc (M #[I J 0,I J 0,I J 0,I J 0,I J 0,Z O 0 0] 56)).alloc (M #[] 2)):=((q').alloc (by simp) _).alloc (by simp;omega) _;have hcs:=h.below kE;go_wp2_with(at_builtin;refine cX5 uG (.tmp 3) (.tmp 5) ?_ ?_ (w.heap.size+1+1) an nn cn (icells zs) ?_ ?_ hcs (by omega) ?_;exact rfl;exact rfl;exact rfl;exact rfl;intro a' c' w' hb ho;have hO:=aT2 P2 z' hlen ho;have Q0:=aR hb P0;have Q1:=aR hb P1;obtain⟨⟨q0,q1,q2,q3,q4,q5⟩,⟨f0,f1,f2,f3,f4,f5⟩⟩:=cU2 Q0;obtain⟨⟨y0,y1,y2,y3,y4,y5⟩,⟨e0,e1,e2,e3,e4,e5⟩⟩:=cU2 Q1;clear ho P0 P1 P2 hcs Q0 Q1)
 have hB:Below w.heap.size w w':=kE.trans (hb.mono kE.size);refine bodyPost_ret (v:=U #[I J tx,I J k,I J p,I J q,I J v,Z a' nn c']) (by simp[results,Tryz.results148,go_sem,y0,y1,y2,y3,y4,y5]) rfl ⟨⟨a',c',rfl,?_⟩,?_⟩
 .refine aP (base:=w.heap.size+1+1) ?_ (by omega);exact nM (nM (nM (nM (nM (nM (nM hO (by omega)) (by omega)) (by omega)) (by omega)) (by omega)) (by omega)) (by omega)
 .exact((((((hB.setCell (by simp) _).setCell (by simp) _).setCell (by simp) _).setCell (by simp) _).setCell (by simp) _).setCell (by simp) _).setCell (by simp) _
theorem nL(V:World)(e:TypeId)(size:Nat):(V.alloc (M #[] e)).ownsRow V.heap.size e size (Z (Y ⟨V.heap.size,0,O⟩) 0 0) 0 []:=lW V _ e size z'
def PutP(B n:Nat)(es:List Hold)(t m:Int)(w:World)(e:Ending)(w':World):Prop:=
 ∃g' n' c',e=R' (Z (Y ⟨g',0,O⟩) n' c')/\w'.ownsRow B 265 2 (Z (Y ⟨g',0,O⟩) n' c') n' (hcells (aA2 es ⟨t,m⟩))/\n'<=n+1/\Below w.heap.size w w'
theorem aW2(B g n c:Nat)(es:List Hold)(t m:Int)(w:World)(own:w.ownsRow B 265 2 (Z (Y ⟨g,0,O⟩) n c) n (hcells es))(hn:n<=1048576)(hB:B<=w.heap.size):
  Calls prog 198 #[Z (Y ⟨g,0,O⟩) n c,U #[I J t,I J m]] w fun e w'=>PutP B n es t m w e w':=by
 have h4:=aJ own;have HL:=h4.hlen;have hcap:=fH own;have hgl:=(aG own g rfl).2;obtain⟨j0,gi0,gz0,gz1,gz2⟩:=info_parts Tryz.info265;have kA:=f' w (M #[I J t,I J m] 265);obtain⟨y0,y1,_,_⟩:=aA9 (heap_alloc_new w (M #[I J t,I J m] 265));have yl:=aD y0;go_enter func198,ntmps198
 go_wp2;go_loopg [5] n (fun gk i wr=>∃k:Nat,gk=n-k/\k<=n/\i=I J k/\Hid (∀j,j<k->Ch.ltE (es.getD j Hold.zero) ⟨t,m⟩=A')/\wr.cell? ⟨w.heap.size,0,O⟩=Y (I J t)/\wr.cell? ⟨w.heap.size,1,O⟩=Y (I J m)/\w.heap.size<wr.heap.size/\Below w.heap.size w wr)
 case atStart=>exact⟨0,rfl,Nat.zero_le _,rfl,(fun j hj=>by omega),y0,y1,yl,kA⟩
 case round=>
  clear y0 y1 yl kA;obtain⟨k,rfl,hk,rfl,HA,z0,z1,ll,hW⟩:=hrel;have HX:Hid (∀r,es.getD k Hold.zero=r->k<n->Ch.ltE r ⟨t,m⟩=A'->∀j,j<k+1->Ch.ltE (es.getD j Hold.zero) ⟨t,m⟩=A'):=fun r hr _ he=>kS (p:=fun j=>Ch.ltE (es.getD j Hold.zero) ⟨t,m⟩) HA.out (by rw[hr];exact he);go_upto_region 2 with fail
  go_cut [17] (fun sl wx=>∃y,sl=X y/\Below wr.heap.size wr wx/\(y=A'->k<n/\∀j,j<k+1->Ch.ltE (es.getD j Hold.zero) ⟨t,m⟩=A')/\(y=F'->k<n->Ch.ltE (es.getD k Hold.zero) ⟨t,m⟩=F'))
  case first=>
   by_cases hlt:k<n
   .obtain⟨b,off,hbo,q0,q1⟩:=(h4.below hW).hold hlt;simp only[Option.some.injEq,Addr.mk.injEq,and_true]at hbo;obtain⟨rfl,rfl⟩:=hbo;rw[Nat.zero_add]at q0 q1;have hqb:=aD q0;generalize hr:es.getD k Hold.zero=r at*;obtain⟨rt,rm⟩:=r;simp only at q0 q1;have st:=hid (fun he=>kS (p:=fun j=>Ch.ltE (es.getD j Hold.zero) ⟨t,m⟩) HA.out (show Ch.ltE (es.getD k Hold.zero) ⟨t,m⟩=A' by rw[hr];exact he));have hd0:(k:Int)<(n:Int):=by omega
    clear hr HX;refine R0 (fun W'=>W'.cell? ⟨w.heap.size,0,O⟩=Y (I J t)/\W'.cell? ⟨w.heap.size,1,O⟩=Y (I J m)/\W'.cell? ⟨g,k*2,O⟩=Y (I J rt)/\W'.cell? ⟨g,k*2+1,O⟩=Y (I J rm)) ⟨z0,z1,q0,q1⟩ (fun hH=>?_);refine R5 0 1 2 3 4 ?_;refine R5 5 6 7 8 9 ?_;refine J1 10 (fun K hK=>?_);go_simp;refine(aI1 rt rm t m _).mono ?_;rintro e w2⟨rfl,b2⟩;refine hK.out _ _ ⟨aC b2 hH.1,aC b2 hH.2.1,aC b2 hH.2.2.1,aC b2 hH.2.2.2⟩ (fun _=>?_);clear hK K;refine J3 ?_;refine R8 11 (h:=J3 (R7 ?_));go_wp2;go_meet;exact⟨_,rfl,u'.drew.trans b2,fun h=>⟨hlt,st.out h⟩,fun h _=>h⟩
   .have hd:decide ((k:Int)<(n:Int))=F':=by simp;omega
    refine R0 (fun _=>True) trivial (fun hH=>?_);refine R5 0 1 2 3 4 ?_;refine R9 5 (h:=R9 6 (h:=R9 7 (h:=R9 8 (h:=R9 9 (h:=J3 ?_)))));refine R9 10 (h:=R8 11 (h:=J3 (R7 ?_)));go_wp2;go_meet;exact⟨F',rfl,u'.drew,fun h=>(by cases h),fun _ h=>absurd h hlt⟩
  case rest=>
   obtain⟨W1,hwn⟩:∃x:World,x=wc:=⟨_,rfl⟩
   subst hwn;obtain⟨y,rfl,hb,hT,hF⟩:=hcut;replace hW:=hW.trans (hb.mono hW.size);replace z0:=aC hb z0;replace z1:=aC hb z1;replace ll:=Nat.lt_of_lt_of_le ll hb.size;clear hb HX;cases y;rotate_left
   .obtain⟨hlt,hA⟩:=hT rfl;clear hF;go_wp2;go_roundg (n-(k+1))
    case rel=>exact⟨k+1,rfl,by omega,by go_num,hA,z0,z1,ll,hW⟩
    case measure=>omega
   have HI:=hid (cS4 (l:=es) (e:=⟨t,m⟩) (k:=k) (by have:=HL.out;omega) HA.out (fun h=>hF rfl (by have:=HL.out;omega)));clear hF hT HA;have hkc:k<=c:=by omega
   have hI1a:∀u∈(hcells es).take (k*2),u.oneCell'=A':=fun u hu=>cF es u (List.mem_of_mem_take hu);have hI1b:∀u∈(hcells es).drop (k*2),u.oneCell'=A':=fun u hu=>cF es u (List.mem_of_mem_drop hu);have hCa:=yM (h4.below hW) (k:=k*2) (by omega);have hCb:CellsAt W1 (if c=k then Y ⟨g,0,O⟩else Y ⟨g,k*2,O⟩) ((n-k)*2) ((hcells es).drop (k*2)):=by
    have:=bI4 (h4.below hW) (k:=k*2) (by omega);rw[Nat.zero_add,<-Nat.sub_mul]at this;split
    .exact⟨this.1,fun h=>by omega⟩
    .exact this
   go_upto_region 4 with fail
   have aE:AppT 66 265 2:=⟨_,_,_,underlying66,gi0,gz0,gz1,gz2,rfl,by omega,by omega⟩
   focus
    refine R0 (fun W'=>W'.cell? ⟨w.heap.size,0,O⟩=Y (I J t)/\W'.cell? ⟨w.heap.size,1,O⟩=Y (I J m)) ⟨z0,z1⟩ (fun hH=>?_);have b0:Below W1.heap.size W1 W1.drew:=u'.drew;replace hW:=hW.drew;replace ll:w.heap.size<W1.drew.heap.size:=ll;replace hCa:=hCa.below b0;replace hCb:=hCb.below b0;clear b0 z0 z1;generalize W1.drew=V0 at*;have hS:=fun W (h:Below V0.heap.size V0 W)=>(⟨aC h hH.1,aC h hH.2⟩:W.cell? ⟨w.heap.size,0,O⟩=Y (I J t)/\W.cell? ⟨w.heap.size,1,O⟩=Y (I J m))
    refine R8 1 (h:=R8 2 (h:=R8 3 (h:=R8 5 (h:=R8 8 (h:=R8 9 (h:=R8 10 (h:=J3 ?_)))))));generalize(if c=k then(Y ⟨g,0,O⟩:Option Addr)else Y ⟨g,k*2,O⟩)=A at*;clear hH;refine J2 0 6 (fun K hK=>?_) (fun K hK=>?_);focus
     have oE:=nL V0 265 2;have b1:=f' V0 (M #[] 265);go_simp;refine hK.out _ _ (hS _ b1) (fun _=>?_);clear hK K;generalize V0.alloc (M #[] 265)=V1 at*;refine J2 4 6 (fun K hK=>?_) (fun K hK=>?_);focus
      refine lH aE (.tmp 20) (.tmp 23) rfl rfl V0.heap.size _ 0 [] (Y ⟨g,0,O⟩) k c ((hcells es).take (k*2)) rfl rfl oE (hCa.below b1) hI1a (by omega) b1.size ?_;intro a5 c5 V2 own5 gr5 at5;simp only[Nat.zero_add,List.nil_append]at own5 at5⊢;have b2:=b1.grown gr5 b1.size (fun g hg=>(aG oE g hg).1);refine hK.out _ _ (hS _ b2) (fun _=>?_);clear hK K;refine J3 (J1 6 (fun K hK=>?_));have hCN:=fT V2 t m 265;have b3:=f' V2 (M #[I J t,I J m] 265);replace own5:=aF own5 b3;have bV:=b2.trans (b3.mono b2.size);go_simp;refine hK.out _ _ (hS _ bV) (fun _=>?_);clear hK K;generalize V2.alloc (M #[I J t,I J m] 265)=V at*
     rotate_left;focus
      have hCN:=fT V1 t m 265;have b3:=f' V1 (M #[I J t,I J m] 265);have hne:=(aG oE _ rfl).2;replace oE:=aF oE b3;have b2:=b1.trans (b3.mono b1.size);go_simp;refine hK.out _ _ (hS _ b2) (fun _=>?_);clear hK K b3;generalize V1.alloc (M #[I J t,I J m] 265)=V2 at*;refine J3 (J1 4 (fun K hK=>?_));refine lH aE (.tmp 20) (.tmp 23) rfl rfl V0.heap.size _ 0 [] (Y ⟨g,0,O⟩) k c ((hcells es).take (k*2)) rfl rfl oE (hCa.below b2) hI1a (by omega) b2.size ?_;intro a5 c5 V own5 gr5 at5;simp only[Nat.zero_add,List.nil_append]at own5 at5⊢;have bV:=b2.grown gr5 b2.size (fun g hg=>(aG oE g hg).1);replace hCN:=gG hCN gr5 (fun b off ha e=>by cases ha;have e:=Option.some.inj e;(try dsimp only at e hne);(try dsimp only at e);omega);refine hK.out _ _ (hS _ bV) (fun _=>?_);clear hK K
    rotate_left 2
    focus
     have hCN:=fT V0 t m 265;have b3:=f' V0 (M #[I J t,I J m] 265);go_simp;refine hK.out _ _ (hS _ b3) (fun _=>?_);clear hK K;refine J3 (J1 0 (fun K hK=>?_));have hz1:(V0.alloc (M #[I J t,I J m] 265)).heap.size=V0.heap.size+1:=by simp
     generalize V0.alloc (M #[I J t,I J m] 265)=V1 at*;have oE:=aP (nL V1 265 2) b3.size;rw[hz1]at oE;have b1:=f' V1 (M #[] 265);replace hCN:=hCN.below b1;have b2:=b3.trans (b1.mono b3.size);go_simp;refine hK.out _ _ (hS _ b2) (fun _=>?_);clear hK K;generalize V1.alloc (M #[] 265)=V2 at*;refine J3 (J1 4 (fun K hK=>?_));refine lH aE (.tmp 20) (.tmp 23) rfl rfl V0.heap.size _ 0 [] (Y ⟨g,0,O⟩) k c ((hcells es).take (k*2)) rfl rfl oE (hCa.below b2) hI1a (by omega) b2.size ?_;intro a5 c5 V own5 gr5 at5;simp only[Nat.zero_add,List.nil_append]at own5 at5⊢;have bV:=b2.grown gr5 b2.size (fun g hg=>(aG oE g hg).1);replace hCN:=gG hCN gr5 (fun b off ha e=>by cases ha;have e:=Option.some.inj e;(try dsimp only at e hne);(try dsimp only at e);omega);refine hK.out _ _ (hS _ bV) (fun _=>?_);clear hK K
    all_goals
     refine J3 (J1 7 (fun K hK=>?_));refine lH aE (.tmp 24) (.tmp 26) rfl rfl V0.heap.size _ k _ (Y ⟨_,0,O⟩) 1 1 (hcells [⟨t,m⟩]) rfl rfl own5 hCN (cF _) (by omega) bV.size ?_;intro a7 c7 V7 own7 gr7 at7;have b7:=bV.grown gr7 bV.size (fun g hg=>(aG own5 g hg).1);refine hK.out _ _ (hS _ b7) (fun _=>?_);clear hK K;refine J3 (J1 11 (fun K hK=>?_));refine lH aE (.tmp 27) (.tmp 30) rfl rfl V0.heap.size _ (k+1) _ _ (n-k) (c-k) ((hcells es).drop (k*2)) rfl rfl own7 (hCb.below b7) hI1b (by omega) b7.size ?_;intro a8 c8 V8 own8 gr8 at8;have b8:=b7.grown gr8 b7.size (fun g hg=>(aG own7 g hg).1);refine hK.out _ _ (hS _ b8) (fun hH=>?_);clear hK K;refine J3 (R8 12 (h:=J3 (R7 ?_)));clear at8 at7 at5 gr8 gr7 gr5 own7 own5 hCN oE;have en:k+1+(n-k)=n+1:=by omega
     simp only[en]at own8⊢;rw[<-jX,<-aV1 es k (by have:=HL.out;omega),<-bZ,<-bZ,<-HI.out]at own8;obtain⟨g8,rfl⟩:=cA8 own8 (by omega);have hz:=hW.size;have hb:=hid (hW.trans (b8.mono hz));have O8:=hid (aP (base':=B) own8 (by omega));clear hH hS own8 hW b7 b8 bV;go_wp2;go_ret;exact⟨g8,n+1,c8,rfl,O8.out,by omega,hb.out⟩
structure EgX(w:World)(T:Nat->Nat)(b o:Nat)(cs:Array Value)(t:TypeId)(s:EgS)(e:Eng):Prop where
 own:EgO w 0 T s e
 box:w.heap[b]? =Y (M cs t (0,0))
 cell:∀i,i<10->cs[o+i]? =(s.cells e.bt)[i]?
 tag:T b=1
theorem EgX.lt(h:EgX w T b o cs t s e):b<w.heap.size:=(Array.getElem?_eq_some_iff.1 h.box).1
theorem EgX.frz(h:EgX w T b o cs t s e)(i:Nat):w.frozen? ⟨b,i,O⟩=F':=frozen_of_row _ _ _ _ _ h.box
theorem EgX.all(h:EgX w T b o cs t s e):w.cell? ⟨b,o,O⟩=Y (Z s.ba s.bn s.bc)/\w.cell? ⟨b,o+1,O⟩=Y (Z s.la s.ln s.lc)/\w.cell? ⟨b,o+2,O⟩=Y (Z s.ka s.kn s.kc)/\w.cell? ⟨b,o+3,O⟩=Y (Z s.ta s.tn s.tc)/\w.cell? ⟨b,o+4,O⟩=Y (Z s.sa s.sn s.sc)/\w.cell? ⟨b,o+5,O⟩=Y (Z s.oa s.on s.oc)/\w.cell? ⟨b,o+6,O⟩=Y (Z s.xa s.xn s.xc)/\w.cell? ⟨b,o+7,O⟩=Y (X e.bt)/\w.cell? ⟨b,o+8,O⟩=Y (Z s.ma s.mn s.mc)/\w.cell? ⟨b,o+9,O⟩=Y (Z s.aa s.an s.ac):=by have c:=fun i (hi:i<10)=>(cell_of_row w b (o+i) cs t _ h.box).trans (h.cell i hi);exact⟨c 0 (by decide),c 1 (by decide),c 2 (by decide),c 3 (by decide),c 4 (by decide),c 5 (by decide),c 6 (by decide),c 7 (by decide),c 8 (by decide),c 9 (by decide)⟩
structure Stp(T T':Nat->Nat)(w w':World)(o:Nat)(cs cs':Array Value):Prop where
 os:w'.os=w.os
 tape:w'.tape=w.tape
 output:w'.output=w.output
 size:w.heap.size<=w'.heap.size
 k0:Kp 0 T T' w w'
 k8:Kp 8 T T' w w'
 rest:∀j,j<o\/o+10<=j->cs'[j]? =cs[j]?
 same:cs'.size=cs.size
theorem Stp.refl(T:Nat->Nat)(w:World)(o:Nat)(cs:Array Value):Stp T T w w o cs cs:=⟨rfl,rfl,rfl,z',Kp.refl _ _ _,Kp.refl _ _ _,fun _ _=>rfl,rfl⟩
theorem Stp.trans{T'':Nat->Nat}{w'':World}{cs' cs'':Array Value}(h:Stp T T' w w' o cs cs')(h':Stp T' T'' w' w'' o cs' cs''):Stp T T'' w w'' o cs cs'':=
 ⟨h'.os.trans h.os,h'.tape.trans h.tape,h'.output.trans h.output,Nat.le_trans h.size h'.size,h.k0.trans h'.k0 h.size,h.k8.trans h'.k8 h.size,fun j hj=>(h'.rest j hj).trans (h.rest j hj),h'.same.trans h.same⟩
theorem Stp.below(o:Nat)(cs:Array Value)(hb:Below w.heap.size w w')(j:Nat):Stp T (mrk T w.heap.size j) w w' o cs cs:=
 ⟨hb.os,hb.tape,hb.output,hb.size,bJ hb T j 0,bJ hb T j 8,fun _ _=>rfl,rfl⟩
theorem EgX.below(h:EgX w T b o cs t s e)(hb:Below w.heap.size w w')(j:Nat):EgX w' (mrk T w.heap.size j) b o cs t s e:=by have hk:=fun k=>bJ hb T j k;obtain⟨h4,h5⟩:=aY h.box h.tag (hk 1);exact⟨h.own.kept (fun k _ _=>hk k),h4,h.cell,h5⟩
theorem Stp.grown(o:Nat)(cs:Array Value)(hg:w.grownBy w' row)(hr:∀g,row=Y g->T g=j)(hj:j≠0)(hj8:j≠8):Stp T (mrk T w.heap.size j) w w' o cs cs:=
 ⟨hg.os,hg.tape,hg.output,hg.size,dS hg hr (fun e=>hj e.symm),dS hg hr (fun e=>hj8 e.symm),fun _ _=>rfl,rfl⟩
theorem EgX.set{s':EgS}{e':Eng}{i:Nat}(hb:w.heap[b]? =Y (M cs t (0,0)))(hc:∀i,i<10->cs[o+i]? =(s.cells e.bt)[i]?)(ht:T b=1)(hn:EgO w 0 T s' e')(hi:i<10)(hv:s'.cells e'.bt=(s.cells e.bt).setIfInBounds i v):
  EgX (w.setCell ⟨b,o+i,O⟩ v) T b o (cs.setIfInBounds (o+i) v) t s' e'/\Stp T T w (w.setCell ⟨b,o+i,O⟩ v) o cs (cs.setIfInBounds (o+i) v):=by
 have hk:∀k,k≠1->Kp k T T w (w.setCell ⟨b,o+i,O⟩ v):=fun k hk=>pR ht hk;have hsz:(s.cells e.bt).size=10:=rfl;have hlt:o+i<cs.size:=by
  have h1:=hc i hi;rcases Nat.lt_or_ge (o+i) cs.size with h2|h2
  .exact h2
  .rw[Array.getElem?_eq_none h2,Array.getElem?_eq_getElem (by omega)]at h1;cases h1
 refine⟨⟨hn.kept (fun k h1 _=>hk k h1),heap_setCell_same w b (o+i) cs t v hb,fun j hj=>?_,ht⟩,⟨rfl,rfl,rfl,by simp,hk 0 (by omega),hk 8 (by omega),fun j hj=>?_,by simp⟩⟩
 .rw[hv];by_cases hij:i=j
  .subst hij;rw[Array.getElem?_setIfInBounds_self_of_lt hlt,Array.getElem?_setIfInBounds_self_of_lt (by omega)]
  .rw[Array.getElem?_setIfInBounds_ne (by omega),Array.getElem?_setIfInBounds_ne hij];exact hc j hj
 .rw[Array.getElem?_setIfInBounds_ne (by omega)]
end Go.Proofs.YtpbbokalojdooaaGreat
