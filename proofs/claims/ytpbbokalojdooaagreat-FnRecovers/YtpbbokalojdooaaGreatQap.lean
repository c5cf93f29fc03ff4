import Derived.Test.YtpbbokalojdooaaGreatQao
namespace Go.Proofs.YtpbbokalojdooaaGreat
open Go.RowKit Ch Go.Proofs.Tryz
set_option linter.unusedSimpArgs false
set_option linter.unusedVariables false
set_option maxRecDepth 20000
set_option maxHeartbeats 8000000
open Value renaming int->I,slice->Z,bool->X,agg->U
open IntKind renaming i64->J
open Option renaming none->O,some->Y
open Obj renaming cells->M
open Ending renaming returned->R'
open Bool renaming true->A',false->F'
variable {e:Eng} {c:Int} {ls:List (List Row)} {es:List Hold} {zs:List Int} {xs:List Value} {H k n sz:Nat} {P:Nat->Bool} {T T':Nat->Nat} {a:Option Addr} {row:Option Nat} {t:TypeId} {v:Value} {w w':World}
def gT(P:Nat->Bool)(w:World):World:={w with heap:=w.heap.mapIdx fun i o=>if P i then o else M #[] 0 (0,0)}
theorem cK0(P:Nat->Bool)(w:World)(i:Nat):(gT P w).heap[i]? =(w.heap[i]?).map fun o=>if P i then o else M #[] 0 (0,0):=by unfold gT;simp[Array.getElem?_mapIdx]
theorem gM{a:Addr}(h:(gT P w).cell? a=Y v):w.cell? a=Y v/\P a.block=A':=by
 unfold World.cell? at*;rw[cK0]at h;cases hb:w.heap[a.block]? with
 |none=>rw[hb]at h;simp at h
 |some o=>
  rw[hb]at h;cases hp:P a.block
  .rw[hp]at h;simp at h
  .rw[hp]at h;exact⟨by simpa using h,rfl⟩
theorem kI{a:Addr}(h:w.cell? a=Y v)(hp:P a.block=A'):(gT P w).cell? a=Y v:=by
 unfold World.cell? at*;rw[cK0];cases hb:w.heap[a.block]? with
 |none=>rw[hb]at h;simp at h
 |some o=>rw[hb]at h;rw[hp];simpa using h
def cK9(w w':World):Prop:=∀(b o:Nat) (v:Value),w.cell? ⟨b,o,O⟩=Y v->w'.cell? ⟨b,o,O⟩=Y v
theorem CellsAt.sub{m:Nat}(h:CellsAt w a m xs)(hs:cK9 w w'):CellsAt w' a m xs:=by refine⟨h.1,fun h0=>?_⟩;obtain⟨b,off,ha,hi⟩:=h.2 h0;refine⟨b,off,ha,fun i hlt=>?_⟩;have h1:=hi i hlt;have h2:xs[i]? =Y (xs[i]'(by have:=h.1;omega)):=List.getElem?_eq_getElem _;rw[h2]at h1⊢;exact hs _ _ _ h1
theorem LvAt.sub(h:LvAt w a n ls)(hs:cK9 w w'):LvAt w' a n ls:=by obtain⟨hl,vs,hc,hi⟩:=h;refine⟨hl,vs,hc.sub hs,fun i hlt=>?_⟩;obtain⟨ai,ni,ci,h1,h2,h3⟩:=hi i hlt;exact⟨ai,ni,ci,h1,h2.sub hs,h3⟩
theorem LkAt.sub{ls:List Lock}(h:LkAt w a n ls)(hs:cK9 w w'):LkAt w' a n ls:=by refine⟨h.1,fun h0=>?_⟩;obtain⟨b,off,ha,hi⟩:=h.2 h0;refine⟨b,off,ha,fun i hlt=>?_⟩;obtain⟨ah,nh,ch,aq,nq,cq,h0,h1,h2,h3,h4,h5⟩:=hi i hlt;exact⟨ah,nh,ch,aq,nq,cq,hs _ _ _ h0,hs _ _ _ h1,hs _ _ _ h2,h3.sub hs,h4.sub hs,h5⟩
theorem fI:cK9 (gT P w) w:=fun _ _ _ h=>(gM h).1
def Kp(k:Nat)(T T':Nat->Nat)(w w':World):Prop:=∀x,x<w.heap.size->T x=k->w'.heap[x]? =w.heap[x]? /\T' x=k
theorem Kp.refl(k:Nat)(T:Nat->Nat)(w:World):Kp k T T w w:=fun _ _ h=>⟨rfl,h⟩
theorem Kp.trans{T'':Nat->Nat}{w'':World}(h:Kp k T T' w w')(h':Kp k T' T'' w' w'')(hs:w.heap.size<=w'.heap.size):Kp k T T'' w w'':=by intro x hx ht;obtain⟨h1,h2⟩:=h x hx ht;obtain⟨h3,h4⟩:=h' x (by omega) h2;exact⟨h3.trans h1,h4⟩
def mrk(T:Nat->Nat)(H k:Nat):Nat->Nat:=fun x=>if x<H then T x else k
theorem bJ(hb:Below w.heap.size w w')(T:Nat->Nat)(j k:Nat):Kp k T (mrk T w.heap.size j) w w':=by intro x hx ht;exact⟨hb.block x hx,by unfold mrk;rw[if_pos hx];exact ht⟩
theorem dS(hg:w.grownBy w' row){j:Nat}(hr:∀g,row=Y g->T g=j)(hk:k≠j):Kp k T (mrk T w.heap.size j) w w':=by intro x hx ht;refine⟨hg.block x hx fun he=>hk ?_,by unfold mrk;rw[if_pos hx];exact ht⟩;rw[<-ht];exact hr x he.symm
theorem pR{g o j:Nat}(hr:T g=j)(hk:k≠j):Kp k T T w (w.setCell ⟨g,o,O⟩ v):=by intro x hx ht;refine⟨Below.heap_setCell _ _ _ _ ?_,ht⟩;intro e;simp at e;subst e;omega
def Ice(T:Nat->Nat):Nat->Bool:=fun x=>T x==0
theorem eG(hk:Kp 0 T T' w w'):cK9 (gT (Ice T) w) (gT (Ice T') w'):=by intro b o v h;obtain⟨h1,h2⟩:=gM h;have hlt:b<w.heap.size:=aD h1;obtain⟨h3,h4⟩:=hk b hlt (by simpa[Ice]using h2);refine kI ?_ (by simp[Ice,h4]);rw[World.cell?_of_block (w:=w) (w':=w') h3];exact h1
def OwnT(w:World)(H:Nat)(T:Nat->Nat)(k:Nat)(t:TypeId)(sz:Nat)(v:Value)(n:Nat)(xs:List Value):Prop:=
 w.ownsRow H t sz v n xs/\∀g,v.ownBlock=Y g->T g=k
theorem OwnT.kept(h:OwnT w H T k t sz v n xs)(hk:Kp k T T' w w'):OwnT w' H T' k t sz v n xs:=by
 refine⟨⟨h.1.1,?_⟩,fun g hg=>(hk g (aG h.1 g hg).2 (h.2 g hg)).2⟩;rcases h.1.2 with h1|⟨g,cap,cur,hv,hb,hc,hr⟩
 .exact .inl h1
 .refine .inr ⟨g,cap,cur,hv,hb,?_,hr⟩;rw[(hk g (Array.getElem?_eq_some_iff.1 hc).1 (h.2 g (by rw[hv];rfl))).1];exact hc
theorem OwnT.cells{c:Nat}(h:OwnT w H T k t sz (Z a n c) n xs):CellsAt w a (n*sz) xs:=aJ h.1
theorem OwnT.new{w0:World}(h:w.ownsRow w0.heap.size t sz v n xs)(hH:H<=w0.heap.size):OwnT w H (mrk T w0.heap.size k) k t sz v n xs:=by refine⟨aP h hH,fun g hg=>?_⟩;have:=(aG h g hg).1;unfold mrk;rw[if_neg (by omega)]
theorem OwnT.grown{v':Value}{n':Nat}{xs':List Value}(h:OwnT w H T k t sz v n xs)(h':w'.ownsRow H t sz v' n' xs')(hv:∀g,v'.ownBlock=Y g->v.ownBlock=Y g\/w.heap.size<=g):OwnT w' H (mrk T w.heap.size k) k t sz v' n' xs':=by
 refine⟨h',fun g hg=>?_⟩;unfold mrk;rcases hv g hg with h1|h1
 .rw[if_pos (aG h.1 g h1).2];exact h.2 g h1
 .rw[if_neg (by omega)]
def dH4(r:Ending):Prop:=∃v,r=R' (X v)
theorem cT6(v:Bool):dH4 (R' (X v)):=⟨v,rfl⟩
theorem CellsAt.itake(h:CellsAt w a (n*1) (icells zs))(hk:k<=n):CellsAt w a (k*1) (icells (zs.take k)):=by have h1:=yM h (k:=k*1) (by omega);simpa[icells,List.map_take]using h1
theorem cO1{t:Int}(h:isT e t=A'):∃j:Nat,j<e.tx.length/\t=(j:Int)+1:=by unfold isT inB at h;simp at h;exact⟨(t-1).toNat,by omega,by omega⟩
theorem wN(b:Nat)(s:EgS)(e:Eng)(w:World)(h:EgP w b s e):
  Calls prog 179 #[.pointer (Y ⟨b,0,O⟩)] w fun r w'=>dH4 r/\Below w.heap.size w w':=by
 have HL:=h.2.cm.ilen;have HT:=h.2.tx.len;have hn:=h.2.n8;have hc8:=h.2.c8;have hm:=h.2.n4;obtain⟨x0,x1,x2,x3,x4,x5,x6,x7,x8,x9⟩:=h.all;have hbl:=h.lt;clear x0 x1 x2 x4 x5 x6 x7 x9;have IA:=fun v W hW=>nE s.ma s.mn s.mc v e.cm W hW (by omega);go_enter func179,ntmps179
 go_wp2;go_loopw [3] (fun i wr=>∃k:Nat,k<=s.mn/\i=I J k/\Below w.heap.size w wr) (fun i _=>s.mn-(intOf i).toNat)
 case atStart=>exact⟨0,Nat.zero_le _,rfl,u'⟩
 case round=>
  obtain⟨k,hk,rfl,hB⟩:=hrel;have h':=h.below hB;have x3:=aC hB x3;have x8:=aC hB x8;have hbl:b<wr.heap.size:=h'.lt;by_cases hlt:k<s.mn
  .obtain⟨g,off,hao,q0⟩:=h'.2.cm.int hlt;have hkc:k<=s.mc:=by omega
   have hgl:=aD q0;have II:=fun W hW=>nX b s e (e.cm.getD k 0) W hW;have IB:=fun v W hW=>nE s.ma k s.mc v (e.cm.take k) W hW (by omega);have hTk:=h'.2.cm.itake (Nat.le_of_lt hlt);have HI:=hid (fun hv=>cO1 (e:=e) (t:=e.cm.getD k 0) hv);generalize e.cm.getD k 0=c at*;have x8':=x8;rw[hao]at x8' IB hTk;clear x8;cases hv:isT e c
   .rw[hv]at II;go_wp2_with fail
    refine R0 (fun W'=>W'.cell? ⟨b,8,O⟩=Y (Z (Y ⟨g,off,O⟩) s.mn s.mc)/\W'.cell? ⟨g,off+k,O⟩=Y (I J c)/\EgP W' b s e/\Below w.heap.size w W') (⟨x8',q0,h.below hB.drew,hB.drew⟩) (fun hH=>?_);refine R5 0 1 2 3 4 ?_;refine R3 5 6 7 ?_;refine R6 8 (fun K hK=>?_);go_simp;refine(II _ hH.2.2.1).mono ?_;rintro r9 w9⟨rfl,hw9⟩;obtain rfl:=hw9.symm;refine hK.out _ _ ?_ (fun hH=>?_)
    .exact hH
    clear hK K;refine R8 9 (h:=R8 10 (h:=R9 11 (h:=R9 12 (h:=R9 13 (h:=J3 ?_)))));refine R9 14 (h:=R9 15 (h:=R9 16 (h:=R9 17 (h:=R9 18 (h:=J3 ?_)))));refine R9 19 (h:=R9 20 (h:=R9 21 (h:=R9 22 (h:=R9 23 (h:=J3 ?_)))));refine R9 24 (h:=R9 25 (h:=R9 26 (h:=R8 27 (h:=R8 28 (h:=J3 ?_)))));refine R9 29 (h:=R9 30 (h:=R9 31 (h:=R9 32 (h:=R9 33 (h:=J3 ?_)))));refine R9 34 (h:=R9 35 (h:=R9 36 (h:=R9 37 (h:=R9 38 (h:=J3 ?_)))));refine R9 39 (h:=R9 40 (h:=R9 41 (h:=R9 42 (h:=R8 43 (h:=J3 ?_)))));refine R7 ?_;go_wp2;go_ret;exact⟨cT6 _,hH.2.2.2⟩
   .rw[hv]at II;obtain⟨j,hj,hcj⟩:=HI.out hv;have hjt:j<s.tn:=by have:=HT.out;omega
    obtain⟨o,of,au,nu,cu,hta,t0,t1,t2,t3,t4,t5,t6,t7,_,_⟩:=h'.2.tx.txn hjt;have x3':=x3;rw[hta]at x3';have hol:=aD t0;have hw:IntKind.i64.wrap (c-1)=(j:Int):=by rw[hcj,show(j:Int)+1-1=(j:Int)by omega];exact IntWalk.i64_in _ ⟨by omega,by omega⟩
    clear hcj;generalize(aQ e.tx j).st=st at*;clear HI x3;cases hs:(st !=3)
    .obtain⟨cv,HCV⟩:∃cv,Hid ((e.cm.take k).contains c=cv):=⟨_,rfl⟩
     cases cv
     .go_wp2_with fail
      refine R0 (fun W'=>W'.cell? ⟨b,8,O⟩=Y (Z (Y ⟨g,off,O⟩) s.mn s.mc)/\W'.cell? ⟨g,off+k,O⟩=Y (I J c)/\EgP W' b s e/\W'.cell? ⟨b,3,O⟩=Y (Z (Y ⟨o,of,O⟩) s.tn s.tc)/\W'.cell? ⟨o,of+j*8+2,O⟩=Y (I J st)/\CellsAt W' (Y ⟨g,off,O⟩) (k*1) (icells (e.cm.take k))/\Below w.heap.size w W') (⟨x8',q0,h.below hB.drew,x3',t2,hTk.below (u'.drew),hB.drew⟩) (fun hH=>?_);refine R5 0 1 2 3 4 ?_;refine R3 5 6 7 ?_;refine R6 8 (fun K hK=>?_);go_simp;refine(II _ hH.2.2.1).mono ?_;rintro r9 w9⟨rfl,hw9⟩;obtain rfl:=hw9.symm;refine hK.out _ _ ?_ (fun hH=>?_)
      .exact hH
      clear hK K;refine R5 9 10 11 12 13 ?_;refine R5 14 15 16 17 18 ?_;refine R5 19 20 21 22 23 ?_;refine R5 24 25 26 27 28 ?_;refine R5 29 30 31 32 33 ?_;refine R5 34 35 36 37 38 ?_;refine R3 39 40 41 ?_;refine R6 42 (fun K hK=>?_);go_simp;refine(IB _ _ hH.2.2.2.2.2.1).mono ?_;rintro r9 w9⟨rfl,hw9⟩;obtain rfl:=hw9.symm;rw[HCV.out];refine hK.out _ _ ?_ (fun hH=>?_)
      .exact hH
      clear hK K;refine R1 43 ?_;refine R7 ?_;go_wp2;go_round
      case rel=>exact⟨k+1,by omega,by go_num,hH.2.2.2.2.2.2⟩
      case measure=>simp[intOf];omega
     .go_wp2_with fail
      refine R0 (fun W'=>W'.cell? ⟨b,8,O⟩=Y (Z (Y ⟨g,off,O⟩) s.mn s.mc)/\W'.cell? ⟨g,off+k,O⟩=Y (I J c)/\EgP W' b s e/\W'.cell? ⟨b,3,O⟩=Y (Z (Y ⟨o,of,O⟩) s.tn s.tc)/\W'.cell? ⟨o,of+j*8+2,O⟩=Y (I J st)/\CellsAt W' (Y ⟨g,off,O⟩) (k*1) (icells (e.cm.take k))/\Below w.heap.size w W') (⟨x8',q0,h.below hB.drew,x3',t2,hTk.below (u'.drew),hB.drew⟩) (fun hH=>?_);refine R5 0 1 2 3 4 ?_;refine R3 5 6 7 ?_;refine R6 8 (fun K hK=>?_);go_simp;refine(II _ hH.2.2.1).mono ?_;rintro r9 w9⟨rfl,hw9⟩;obtain rfl:=hw9.symm;refine hK.out _ _ ?_ (fun hH=>?_)
      .exact hH
      clear hK K;refine R5 9 10 11 12 13 ?_;refine R5 14 15 16 17 18 ?_;refine R5 19 20 21 22 23 ?_;refine R5 24 25 26 27 28 ?_;refine R5 29 30 31 32 33 ?_;refine R5 34 35 36 37 38 ?_;refine R3 39 40 41 ?_;refine R6 42 (fun K hK=>?_);go_simp;refine(IB _ _ hH.2.2.2.2.2.1).mono ?_;rintro r9 w9⟨rfl,hw9⟩;obtain rfl:=hw9.symm;rw[HCV.out];refine hK.out _ _ ?_ (fun hH=>?_)
      .exact hH
      clear hK K;refine R1 43 ?_;refine R7 ?_;go_wp2;go_ret;exact⟨cT6 _,hH.2.2.2.2.2.2⟩
    .go_wp2_with fail
     refine R0 (fun W'=>W'.cell? ⟨b,8,O⟩=Y (Z (Y ⟨g,off,O⟩) s.mn s.mc)/\W'.cell? ⟨g,off+k,O⟩=Y (I J c)/\EgP W' b s e/\W'.cell? ⟨b,3,O⟩=Y (Z (Y ⟨o,of,O⟩) s.tn s.tc)/\W'.cell? ⟨o,of+j*8+2,O⟩=Y (I J st)/\CellsAt W' (Y ⟨g,off,O⟩) (k*1) (icells (e.cm.take k))/\Below w.heap.size w W') (⟨x8',q0,h.below hB.drew,x3',t2,hTk.below (u'.drew),hB.drew⟩) (fun hH=>?_);refine R5 0 1 2 3 4 ?_;refine R3 5 6 7 ?_;refine R6 8 (fun K hK=>?_);go_simp;refine(II _ hH.2.2.1).mono ?_;rintro r9 w9⟨rfl,hw9⟩;obtain rfl:=hw9.symm;refine hK.out _ _ ?_ (fun hH=>?_)
     .exact hH
     clear hK K;refine R5 9 10 11 12 13 ?_;refine R5 14 15 16 17 18 ?_;refine R5 19 20 21 22 23 ?_;refine R5 24 25 26 27 28 ?_;refine R9 29 (h:=R9 30 (h:=R9 31 (h:=R9 32 (h:=R9 33 (h:=J3 ?_)))));refine R9 34 (h:=R9 35 (h:=R9 36 (h:=R9 37 (h:=R9 38 (h:=J3 ?_)))));refine R9 39 (h:=R9 40 (h:=R9 41 (h:=R9 42 (h:=R8 43 (h:=J3 ?_)))));refine R7 ?_;go_wp2;go_ret;exact⟨cT6 _,hH.2.2.2.2.2.2⟩
  .obtain rfl:k=s.mn:=by omega
   go_wp2;go_loopw [4] (fun i wr=>∃k:Nat,k<=s.tn/\i=I J k/\Below w.heap.size w wr) (fun i _=>s.tn-(intOf i).toNat)
   case atStart=>exact⟨0,Nat.zero_le _,rfl,hB⟩
   case round=>
    obtain⟨k,hk,rfl,hB⟩:=hrel;have h':=h.below hB;obtain⟨_,_,_,x3,_,_,_,_,x8,_⟩:=h'.all;have hbl:=h'.lt;by_cases hlt:k<s.tn
    .obtain⟨o,of,au,nu,cu,hta,t0,t1,t2,t3,t4,t5,t6,t7,_,_⟩:=h'.2.tx.txn hlt;have x3':=x3;rw[hta]at x3';have hol:=aD t0;generalize aQ e.tx k=tt at*;obtain⟨tid,tsy,st,tun,twk,twa,twb,twv⟩:=tt;simp only at t0 t1 t2 t3 t4 t5 t6 t7;clear x3;cases hs:(st==3)
     .go_wp2_with fail
      refine R0 (fun W'=>W'.cell? ⟨b,8,O⟩=Y (Z s.ma s.mn s.mc)/\W'.cell? ⟨b,3,O⟩=Y (Z (Y ⟨o,of,O⟩) s.tn s.tc)/\W'.cell? ⟨o,of+k*8,O⟩=Y (I J tid)/\W'.cell? ⟨o,of+k*8+2,O⟩=Y (I J st)/\CellsAt W' s.ma (s.mn*1) (icells e.cm)/\Below w.heap.size w W') (⟨x8,x3',t0,t2,h'.2.cm.below (u'.drew),hB.drew⟩) (fun hH=>?_);refine R5 0 1 2 3 4 ?_;refine R5 5 6 7 8 9 ?_;refine R9 10 (h:=R9 11 (h:=R9 12 (h:=R9 13 (h:=R9 14 (h:=J3 ?_)))));refine R9 15 (h:=R9 16 (h:=R9 17 (h:=R9 18 (h:=R9 19 (h:=J3 ?_)))));refine R9 20 (h:=R9 21 (h:=R9 22 (h:=R9 23 (h:=R8 24 (h:=J3 ?_)))));refine R7 ?_;go_wp2;go_round
      case rel=>exact⟨k+1,by omega,by go_num,hH.2.2.2.2.2⟩
      case measure=>simp[intOf];omega
     .obtain⟨cv,HCV⟩:∃cv,Hid (e.cm.contains tid=cv):=⟨_,rfl⟩
      cases cv
      .go_wp2_with fail
       refine R0 (fun W'=>W'.cell? ⟨b,8,O⟩=Y (Z s.ma s.mn s.mc)/\W'.cell? ⟨b,3,O⟩=Y (Z (Y ⟨o,of,O⟩) s.tn s.tc)/\W'.cell? ⟨o,of+k*8,O⟩=Y (I J tid)/\W'.cell? ⟨o,of+k*8+2,O⟩=Y (I J st)/\CellsAt W' s.ma (s.mn*1) (icells e.cm)/\Below w.heap.size w W') (⟨x8,x3',t0,t2,h'.2.cm.below (u'.drew),hB.drew⟩) (fun hH=>?_);refine R5 0 1 2 3 4 ?_;refine R5 5 6 7 8 9 ?_;refine R5 10 11 12 13 14 ?_;refine R5 15 16 17 18 19 ?_;refine R2 20 21 ?_;refine R6 22 (fun K hK=>?_);go_simp;refine(IA _ _ hH.2.2.2.2.1).mono ?_;rintro r9 w9⟨rfl,hw9⟩;obtain rfl:=hw9.symm;rw[HCV.out];refine hK.out _ _ ?_ (fun hH=>?_)
       .exact hH
       clear hK K;refine R2 23 24 ?_;refine R7 ?_;go_wp2;go_ret;exact⟨cT6 _,hH.2.2.2.2.2⟩
      .go_wp2_with fail
       refine R0 (fun W'=>W'.cell? ⟨b,8,O⟩=Y (Z s.ma s.mn s.mc)/\W'.cell? ⟨b,3,O⟩=Y (Z (Y ⟨o,of,O⟩) s.tn s.tc)/\W'.cell? ⟨o,of+k*8,O⟩=Y (I J tid)/\W'.cell? ⟨o,of+k*8+2,O⟩=Y (I J st)/\CellsAt W' s.ma (s.mn*1) (icells e.cm)/\Below w.heap.size w W') (⟨x8,x3',t0,t2,h'.2.cm.below (u'.drew),hB.drew⟩) (fun hH=>?_);refine R5 0 1 2 3 4 ?_;refine R5 5 6 7 8 9 ?_;refine R5 10 11 12 13 14 ?_;refine R5 15 16 17 18 19 ?_;refine R2 20 21 ?_;refine R6 22 (fun K hK=>?_);go_simp;refine(IA _ _ hH.2.2.2.2.1).mono ?_;rintro r9 w9⟨rfl,hw9⟩;obtain rfl:=hw9.symm;rw[HCV.out];refine hK.out _ _ ?_ (fun hH=>?_)
       .exact hH
       clear hK K;refine R2 23 24 ?_;refine R7 ?_;go_wp2;go_round
       case rel=>exact⟨k+1,by omega,by go_num,hH.2.2.2.2.2⟩
       case measure=>simp[intOf];omega
    .obtain rfl:k=s.tn:=by omega
     go_wp2;go_ret;exact⟨cT6 _,hB⟩
structure Ch.TxFine(lk:List Ch.Lock)(k:Nat)(t:Ch.Tx):Prop where
 un:cT t.un=0
 id:t.id=(k:Int)+1
 op:t.st=2->aN t.wk t.wa t.wb t.wv=0
 wt:t.st≠2->dZ lk t.id<0
def TxnC(e:Eng)(k:Nat)(r:Ending):Prop:=∃c,r=R' (I J c)/\(c=0->TxFine e.lk k (aQ e.tx k))
theorem TxnC.bad(h:c≠0):TxnC e k (R' (I J c)):=⟨c,rfl,fun h0=>absurd h0 h⟩
theorem TxnC.ok(h:TxFine e.lk k (aQ e.tx k)):TxnC e k (R' (I J c)):=⟨c,rfl,fun _=>h⟩
theorem cM7(b:Nat)(s:EgS)(e:Eng)(k:Nat)(w:World)(h:EgP w b s e)(hk:k<s.tn):
  Calls prog 144 #[.pointer (Y ⟨b,0,O⟩),I J k] w fun r w'=>TxnC e k r/\Below w.heap.size w w':=by
 have hn:=h.2.n4;obtain⟨x0,x1,x2,x3,x4,x5,x6,x7,x8,x9⟩:=h.all;have hbl:=h.lt;obtain⟨g,off,au,nu,cu,hta,t0,t1,t2,t3,t4,t5,t6,t7,hU,hnu⟩:=h.2.tx.txn hk;have HU:=hU.bflen;rw[hta]at x3;have hg:=aD t0;have hLk:=h.2.lk;have IBf:=fun W hW=>aG4 au nu cu (aQ e.tx k).un W hW hnu;obtain⟨bc,HBc⟩:∃bc,Hid (cT (aQ e.tx k).un=bc):=⟨_,rfl⟩
 rw[HBc.out]at IBf;have hU':=fun W (hW:Below w.heap.size w W)=>hU.below hW;obtain⟨tt,HTt⟩:∃tt,Hid (aQ e.tx k=tt):=⟨_,rfl⟩
 rw[HTt.out]at t0 t1 t2 t4 t5 t6 t7 hU HBc;simp only[HTt.out]at IBf;simp only[HTt.out]at hU';obtain⟨tid,tsy,tst,tun,twk,twa,twb,twv⟩:=tt;simp only at t0 t1 t2 t4 t5 t6 t7 hU hU' HBc
 (try simp only at IBf)
 have hwk:IntKind.i64.wrap ((k:Int)+1)=(k:Int)+1:=IntWalk.i64_in _ ⟨by omega,by omega⟩;clear x0 x1 x4 x5 x6 x7 x8 x9 t1;go_enter func144,ntmps144
 cases hid:(tid !=(k:Int)+1);rotate_left
 .go_wp2;go_ret;exact⟨TxnC.bad (by decide),u'⟩
 .cases hin:inB tst 1 4
  .go_wp2_with fail
   refine(cU tst 1 4 _).mono ?_;rintro r9 w9⟨rfl,hw9⟩;obtain rfl:=hw9.symm;rw[hin];go_wp2;go_ret;exact⟨TxnC.bad (by decide),u'⟩
  .go_wp2_with fail
   refine(cU tst 1 4 _).mono ?_;rintro r9 w9⟨rfl,hw9⟩;obtain rfl:=hw9.symm;rw[hin];go_wp2_with fail
   refine(IBf _ hU).mono ?_;rintro r9 w1⟨rfl,hB⟩;have t0:=aC hB t0;have t2:=aC hB t2;have t3:=aC hB t3;have t4:=aC hB t4;have t5:=aC hB t5;have t6:=aC hB t6;have t7:=aC hB t7;have x2:=aC hB x2;have hLk:=hLk.below hB;have hg:=aD t0;have hbl:=aD x2;clear hU hU' IBf x3;cases hbc:(bc !=0);rotate_left
   .go_wp2;go_ret;exact⟨TxnC.bad (by simpa using hbc),hB⟩
   .have HBf:Hid (cT tun=0):=by show _=_;rw[HBc.out];simpa using hbc
    clear HBc;obtain⟨hv,HHv⟩:∃hv,Hid (gK e.lk tid e.lk.length=hv):=⟨_,rfl⟩
    obtain⟨B0,hB0⟩:∃B0,w1.heap.size=B0:=⟨_,rfl⟩
    cases h3:decide (3<=tst)
    .go_wp2_with fail
     have kA:=f' w1 (M #[I J 0,I J 0,I J 0,I J 0] 54);have hz:(w1.alloc (M #[I J 0,I J 0,I J 0,I J 0] 54)).heap[w1.heap.size]? =Y (M #[I J 0,I J 0,I J 0,I J 0] 54 (0,0)):=aO rfl;have z0:_=Y (I J 0):=cell_of_row _ _ 0 _ _ _ hz;have z1:_=Y (I J 0):=cell_of_row _ _ 1 _ _ _ hz;have z2:_=Y (I J 0):=cell_of_row _ _ 2 _ _ _ hz;have z3:_=Y (I J 0):=cell_of_row _ _ 3 _ _ _ hz;have t0:=aC kA t0;have t2:=aC kA t2;have t3:=aC kA t3;have t4:=aC kA t4;have t5:=aC kA t5;have t6:=aC kA t6;have t7:=aC kA t7;have x2:=aC kA x2;have hLk:=hLk.below kA;have hB:=hB.trans (kA.mono hB.size);clear kA hz;rw[hB0]at z0 z1 z2 z3;generalize w1.alloc (M #[I J 0,I J 0,I J 0,I J 0] 54)=w2 at*;refine R0 (fun W'=>W'.cell? ⟨g,off+k*8,O⟩=Y (I J tid)/\W'.cell? ⟨g,off+k*8+2,O⟩=Y (I J tst)/\W'.cell? ⟨g,off+k*8+3,O⟩=Y (Z au nu cu)/\W'.cell? ⟨g,off+k*8+4,O⟩=Y (I J twk)/\W'.cell? ⟨g,off+k*8+5,O⟩=Y (I J twa)/\W'.cell? ⟨g,off+k*8+6,O⟩=Y (I J twb)/\W'.cell? ⟨g,off+k*8+7,O⟩=Y (I J twv)/\W'.cell? ⟨B0,0,O⟩=Y (I J 0)/\W'.cell? ⟨B0,1,O⟩=Y (I J 0)/\W'.cell? ⟨B0,2,O⟩=Y (I J 0)/\W'.cell? ⟨B0,3,O⟩=Y (I J 0)/\W'.cell? ⟨b,2,O⟩=Y (Z s.ka s.kn s.kc)/\LkAt W' s.ka s.kn e.lk/\Below w.heap.size w W') (⟨t0,t2,t3,t4,t5,t6,t7,z0,z1,z2,z3,x2,hLk.below (u'.drew),hB.drew⟩) (fun hH=>?_);refine R5 0 1 2 3 4 ?_;refine R8 5 (h:=R9 6 (h:=R9 7 (h:=R9 8 (h:=R9 9 (h:=J3 ?_)))));refine R9 10 (h:=R9 11 (h:=R9 12 (h:=R9 13 (h:=R9 14 (h:=J3 ?_)))));refine R9 15 (h:=R9 16 (h:=R9 17 (h:=R9 18 (h:=R9 19 (h:=J3 ?_)))));refine R9 20 (h:=R9 21 (h:=R9 22 (h:=R8 23 (h:=J3 ?_))));refine R7 ?_;obtain⟨t0,t2,t3,t4,t5,t6,t7,z0,z1,z2,z3,x2,hLk,hB⟩:=hH;cases hs2:(tst==2)
     .obtain⟨nb,HNe⟩:∃nb,Hid ((!(twk==0&&twa==0&&twb==0&&twv==0))=nb):=⟨_,rfl⟩
      have hne:∀W,(binOp .neq 54 (U #[I J twk,I J twa,I J twb,I J twv]) (U #[I J 0,I J 0,I J 0,I J 0])).run prog W= .ok (X nb) W:=fun W=>by rw[dF6,HNe.out]
      cases nb
      .obtain⟨wt,HWt⟩:∃wt,Hid (dZ e.lk tid=wt):=⟨_,rfl⟩
       cases hwt:decide (0<=wt)
       .go_wp2_with fail
        refine R0 (fun W'=>W'.cell? ⟨g,off+k*8,O⟩=Y (I J tid)/\W'.cell? ⟨g,off+k*8+2,O⟩=Y (I J tst)/\W'.cell? ⟨g,off+k*8+3,O⟩=Y (Z au nu cu)/\W'.cell? ⟨g,off+k*8+4,O⟩=Y (I J twk)/\W'.cell? ⟨g,off+k*8+5,O⟩=Y (I J twa)/\W'.cell? ⟨g,off+k*8+6,O⟩=Y (I J twb)/\W'.cell? ⟨g,off+k*8+7,O⟩=Y (I J twv)/\W'.cell? ⟨B0,0,O⟩=Y (I J 0)/\W'.cell? ⟨B0,1,O⟩=Y (I J 0)/\W'.cell? ⟨B0,2,O⟩=Y (I J 0)/\W'.cell? ⟨B0,3,O⟩=Y (I J 0)/\W'.cell? ⟨b,2,O⟩=Y (Z s.ka s.kn s.kc)/\LkAt W' s.ka s.kn e.lk/\Below w.heap.size w W') (⟨t0,t2,t3,t4,t5,t6,t7,z0,z1,z2,z3,x2,hLk.below (u'.drew),hB.drew⟩) (fun hH=>?_);refine R5 0 1 2 3 4 ?_;refine R5 5 6 7 8 9 ?_;refine R5 10 11 12 13 14 ?_;refine R6 15 (fun K hK=>?_);go_simp;refine(lT s.ka s.kn s.kc tid e.lk _ hH.2.2.2.2.2.2.2.2.2.2.2.2.1 h.2.n3).mono ?_;rintro r9 w9⟨rfl,hw9⟩;obtain rfl:=hw9.symm;rw[HWt.out];refine hK.out _ _ ?_ (fun hH=>?_)
        .exact hH
        clear hK K;refine R2 16 17 ?_;refine R7 ?_;obtain⟨t0,t2,t3,t4,t5,t6,t7,z0,z1,z2,z3,x2,hLk,hB⟩:=hH;go_wp2;go_ret;exact⟨TxnC.ok (by rw[HTt.out];exact⟨HBf.out,by simpa using hid,fun h2=>absurd h2 (by simpa using hs2),fun _=>by show dZ e.lk tid<0;rw[HWt.out];simpa using hwt⟩),hB⟩
       .go_wp2_with fail
        refine R0 (fun W'=>W'.cell? ⟨g,off+k*8,O⟩=Y (I J tid)/\W'.cell? ⟨g,off+k*8+2,O⟩=Y (I J tst)/\W'.cell? ⟨g,off+k*8+3,O⟩=Y (Z au nu cu)/\W'.cell? ⟨g,off+k*8+4,O⟩=Y (I J twk)/\W'.cell? ⟨g,off+k*8+5,O⟩=Y (I J twa)/\W'.cell? ⟨g,off+k*8+6,O⟩=Y (I J twb)/\W'.cell? ⟨g,off+k*8+7,O⟩=Y (I J twv)/\W'.cell? ⟨B0,0,O⟩=Y (I J 0)/\W'.cell? ⟨B0,1,O⟩=Y (I J 0)/\W'.cell? ⟨B0,2,O⟩=Y (I J 0)/\W'.cell? ⟨B0,3,O⟩=Y (I J 0)/\W'.cell? ⟨b,2,O⟩=Y (Z s.ka s.kn s.kc)/\LkAt W' s.ka s.kn e.lk/\Below w.heap.size w W') (⟨t0,t2,t3,t4,t5,t6,t7,z0,z1,z2,z3,x2,hLk.below (u'.drew),hB.drew⟩) (fun hH=>?_);refine R5 0 1 2 3 4 ?_;refine R5 5 6 7 8 9 ?_;refine R5 10 11 12 13 14 ?_;refine R6 15 (fun K hK=>?_);go_simp;refine(lT s.ka s.kn s.kc tid e.lk _ hH.2.2.2.2.2.2.2.2.2.2.2.2.1 h.2.n3).mono ?_;rintro r9 w9⟨rfl,hw9⟩;obtain rfl:=hw9.symm;rw[HWt.out];refine hK.out _ _ ?_ (fun hH=>?_)
        .exact hH
        clear hK K;refine R2 16 17 ?_;refine R7 ?_;obtain⟨t0,t2,t3,t4,t5,t6,t7,z0,z1,z2,z3,x2,hLk,hB⟩:=hH;go_wp2;go_ret;exact⟨TxnC.bad (by decide),hB⟩
      .go_wp2_with fail
       refine R0 (fun W'=>W'.cell? ⟨g,off+k*8,O⟩=Y (I J tid)/\W'.cell? ⟨g,off+k*8+2,O⟩=Y (I J tst)/\W'.cell? ⟨g,off+k*8+3,O⟩=Y (Z au nu cu)/\W'.cell? ⟨g,off+k*8+4,O⟩=Y (I J twk)/\W'.cell? ⟨g,off+k*8+5,O⟩=Y (I J twa)/\W'.cell? ⟨g,off+k*8+6,O⟩=Y (I J twb)/\W'.cell? ⟨g,off+k*8+7,O⟩=Y (I J twv)/\W'.cell? ⟨B0,0,O⟩=Y (I J 0)/\W'.cell? ⟨B0,1,O⟩=Y (I J 0)/\W'.cell? ⟨B0,2,O⟩=Y (I J 0)/\W'.cell? ⟨B0,3,O⟩=Y (I J 0)/\W'.cell? ⟨b,2,O⟩=Y (Z s.ka s.kn s.kc)/\LkAt W' s.ka s.kn e.lk/\Below w.heap.size w W') (⟨t0,t2,t3,t4,t5,t6,t7,z0,z1,z2,z3,x2,hLk.below (u'.drew),hB.drew⟩) (fun hH=>?_);refine R5 0 1 2 3 4 ?_;refine R8 5 (h:=R8 6 (h:=R9 7 (h:=R9 8 (h:=R9 9 (h:=J3 ?_)))));refine R9 10 (h:=R9 11 (h:=R9 12 (h:=R9 13 (h:=R9 14 (h:=J3 ?_)))));refine R9 15 (h:=R9 16 (h:=R8 17 (h:=J3 ?_)));refine R7 ?_;obtain⟨t0,t2,t3,t4,t5,t6,t7,z0,z1,z2,z3,x2,hLk,hB⟩:=hH;go_wp2;go_ret;exact⟨TxnC.bad (by decide),hB⟩
     .go_wp2_with fail
      refine(qA twk twa twb twv _).mono ?_;rintro r9 w9⟨rfl,hw9⟩;have hB:=hB.trans (hw9.mono hB.size);obtain⟨oc,HOc⟩:∃oc,Hid (aN twk twa twb twv=oc):=⟨_,rfl⟩
      rw[HOc.out];cases hoc:(oc !=0)
      .go_wp2;go_ret;exact⟨TxnC.ok (by rw[HTt.out];exact⟨HBf.out,by simpa using hid,fun _=>by show aN twk twa twb twv=0;rw[HOc.out];simpa using hoc,fun h2=>absurd (by simpa using hs2) h2⟩),hB⟩
      .go_wp2;go_ret;exact⟨TxnC.bad (by decide),hB⟩
    .cases hv
     .by_cases h0:nu=0
      .have hp:¬0<nu:=by omega
       have hp':¬(0:Int)<(nu:Int):=by omega
       clear h0;go_wp2_with fail
       have kA:=f' w1 (M #[I J 0,I J 0,I J 0,I J 0] 54);have hz:(w1.alloc (M #[I J 0,I J 0,I J 0,I J 0] 54)).heap[w1.heap.size]? =Y (M #[I J 0,I J 0,I J 0,I J 0] 54 (0,0)):=aO rfl;have z0:_=Y (I J 0):=cell_of_row _ _ 0 _ _ _ hz;have z1:_=Y (I J 0):=cell_of_row _ _ 1 _ _ _ hz;have z2:_=Y (I J 0):=cell_of_row _ _ 2 _ _ _ hz;have z3:_=Y (I J 0):=cell_of_row _ _ 3 _ _ _ hz;have t0:=aC kA t0;have t2:=aC kA t2;have t3:=aC kA t3;have t4:=aC kA t4;have t5:=aC kA t5;have t6:=aC kA t6;have t7:=aC kA t7;have x2:=aC kA x2;have hLk:=hLk.below kA;have hB:=hB.trans (kA.mono hB.size);clear kA hz;rw[hB0]at z0 z1 z2 z3;generalize w1.alloc (M #[I J 0,I J 0,I J 0,I J 0] 54)=w2 at*;refine R0 (fun W'=>W'.cell? ⟨g,off+k*8,O⟩=Y (I J tid)/\W'.cell? ⟨g,off+k*8+2,O⟩=Y (I J tst)/\W'.cell? ⟨g,off+k*8+3,O⟩=Y (Z au nu cu)/\W'.cell? ⟨g,off+k*8+4,O⟩=Y (I J twk)/\W'.cell? ⟨g,off+k*8+5,O⟩=Y (I J twa)/\W'.cell? ⟨g,off+k*8+6,O⟩=Y (I J twb)/\W'.cell? ⟨g,off+k*8+7,O⟩=Y (I J twv)/\W'.cell? ⟨B0,0,O⟩=Y (I J 0)/\W'.cell? ⟨B0,1,O⟩=Y (I J 0)/\W'.cell? ⟨B0,2,O⟩=Y (I J 0)/\W'.cell? ⟨B0,3,O⟩=Y (I J 0)/\W'.cell? ⟨b,2,O⟩=Y (Z s.ka s.kn s.kc)/\LkAt W' s.ka s.kn e.lk/\Below w.heap.size w W') (⟨t0,t2,t3,t4,t5,t6,t7,z0,z1,z2,z3,x2,hLk.below (u'.drew),hB.drew⟩) (fun hH=>?_);refine R5 0 1 2 3 4 ?_;refine R5 5 6 7 8 9 ?_;refine R4 10 11 12 13 ?_;refine R6 14 (fun K hK=>?_);go_simp;refine(xL s.ka s.kn s.kc tid e.lk _ hH.2.2.2.2.2.2.2.2.2.2.2.2.1 h.2.n3).mono ?_;rintro r9 w9⟨rfl,hw9⟩;rw[HHv.out];refine hK.out _ _ ?_ (fun hH=>?_)
       .obtain⟨t0,t2,t3,t4,t5,t6,t7,z0,z1,z2,z3,x2,hLk,hB⟩:=hH;exact⟨aC hw9 t0,aC hw9 t2,aC hw9 t3,aC hw9 t4,aC hw9 t5,aC hw9 t6,aC hw9 t7,aC hw9 z0,aC hw9 z1,aC hw9 z2,aC hw9 z3,aC hw9 x2,hLk.below hw9,hB.trans (hw9.mono hB.size)⟩
       clear hK K;refine R5 15 16 17 18 19 ?_;refine R4 20 21 22 23 ?_;refine R7 ?_;obtain⟨t0,t2,t3,t4,t5,t6,t7,z0,z1,z2,z3,x2,hLk,hB⟩:=hH;cases hs2:(tst==2)
       .obtain⟨nb,HNe⟩:∃nb,Hid ((!(twk==0&&twa==0&&twb==0&&twv==0))=nb):=⟨_,rfl⟩
        have hne:∀W,(binOp .neq 54 (U #[I J twk,I J twa,I J twb,I J twv]) (U #[I J 0,I J 0,I J 0,I J 0])).run prog W= .ok (X nb) W:=fun W=>by rw[dF6,HNe.out]
        cases nb
        .obtain⟨wt,HWt⟩:∃wt,Hid (dZ e.lk tid=wt):=⟨_,rfl⟩
         cases hwt:decide (0<=wt)
         .go_wp2_with fail
          refine R0 (fun W'=>W'.cell? ⟨g,off+k*8,O⟩=Y (I J tid)/\W'.cell? ⟨g,off+k*8+2,O⟩=Y (I J tst)/\W'.cell? ⟨g,off+k*8+3,O⟩=Y (Z au nu cu)/\W'.cell? ⟨g,off+k*8+4,O⟩=Y (I J twk)/\W'.cell? ⟨g,off+k*8+5,O⟩=Y (I J twa)/\W'.cell? ⟨g,off+k*8+6,O⟩=Y (I J twb)/\W'.cell? ⟨g,off+k*8+7,O⟩=Y (I J twv)/\W'.cell? ⟨B0,0,O⟩=Y (I J 0)/\W'.cell? ⟨B0,1,O⟩=Y (I J 0)/\W'.cell? ⟨B0,2,O⟩=Y (I J 0)/\W'.cell? ⟨B0,3,O⟩=Y (I J 0)/\W'.cell? ⟨b,2,O⟩=Y (Z s.ka s.kn s.kc)/\LkAt W' s.ka s.kn e.lk/\Below w.heap.size w W') (⟨t0,t2,t3,t4,t5,t6,t7,z0,z1,z2,z3,x2,hLk.below (u'.drew),hB.drew⟩) (fun hH=>?_);refine R5 0 1 2 3 4 ?_;refine R5 5 6 7 8 9 ?_;refine R5 10 11 12 13 14 ?_;refine R6 15 (fun K hK=>?_);go_simp;refine(lT s.ka s.kn s.kc tid e.lk _ hH.2.2.2.2.2.2.2.2.2.2.2.2.1 h.2.n3).mono ?_;rintro r9 w9⟨rfl,hw9⟩;obtain rfl:=hw9.symm;rw[HWt.out];refine hK.out _ _ ?_ (fun hH=>?_)
          .exact hH
          clear hK K;refine R2 16 17 ?_;refine R7 ?_;obtain⟨t0,t2,t3,t4,t5,t6,t7,z0,z1,z2,z3,x2,hLk,hB⟩:=hH;go_wp2;go_ret;exact⟨TxnC.ok (by rw[HTt.out];exact⟨HBf.out,by simpa using hid,fun h2=>absurd h2 (by simpa using hs2),fun _=>by show dZ e.lk tid<0;rw[HWt.out];simpa using hwt⟩),hB⟩
         .go_wp2_with fail
          refine R0 (fun W'=>W'.cell? ⟨g,off+k*8,O⟩=Y (I J tid)/\W'.cell? ⟨g,off+k*8+2,O⟩=Y (I J tst)/\W'.cell? ⟨g,off+k*8+3,O⟩=Y (Z au nu cu)/\W'.cell? ⟨g,off+k*8+4,O⟩=Y (I J twk)/\W'.cell? ⟨g,off+k*8+5,O⟩=Y (I J twa)/\W'.cell? ⟨g,off+k*8+6,O⟩=Y (I J twb)/\W'.cell? ⟨g,off+k*8+7,O⟩=Y (I J twv)/\W'.cell? ⟨B0,0,O⟩=Y (I J 0)/\W'.cell? ⟨B0,1,O⟩=Y (I J 0)/\W'.cell? ⟨B0,2,O⟩=Y (I J 0)/\W'.cell? ⟨B0,3,O⟩=Y (I J 0)/\W'.cell? ⟨b,2,O⟩=Y (Z s.ka s.kn s.kc)/\LkAt W' s.ka s.kn e.lk/\Below w.heap.size w W') (⟨t0,t2,t3,t4,t5,t6,t7,z0,z1,z2,z3,x2,hLk.below (u'.drew),hB.drew⟩) (fun hH=>?_);refine R5 0 1 2 3 4 ?_;refine R5 5 6 7 8 9 ?_;refine R5 10 11 12 13 14 ?_;refine R6 15 (fun K hK=>?_);go_simp;refine(lT s.ka s.kn s.kc tid e.lk _ hH.2.2.2.2.2.2.2.2.2.2.2.2.1 h.2.n3).mono ?_;rintro r9 w9⟨rfl,hw9⟩;obtain rfl:=hw9.symm;rw[HWt.out];refine hK.out _ _ ?_ (fun hH=>?_)
          .exact hH
          clear hK K;refine R2 16 17 ?_;refine R7 ?_;obtain⟨t0,t2,t3,t4,t5,t6,t7,z0,z1,z2,z3,x2,hLk,hB⟩:=hH;go_wp2;go_ret;exact⟨TxnC.bad (by decide),hB⟩
        .go_wp2_with fail
         refine R0 (fun W'=>W'.cell? ⟨g,off+k*8,O⟩=Y (I J tid)/\W'.cell? ⟨g,off+k*8+2,O⟩=Y (I J tst)/\W'.cell? ⟨g,off+k*8+3,O⟩=Y (Z au nu cu)/\W'.cell? ⟨g,off+k*8+4,O⟩=Y (I J twk)/\W'.cell? ⟨g,off+k*8+5,O⟩=Y (I J twa)/\W'.cell? ⟨g,off+k*8+6,O⟩=Y (I J twb)/\W'.cell? ⟨g,off+k*8+7,O⟩=Y (I J twv)/\W'.cell? ⟨B0,0,O⟩=Y (I J 0)/\W'.cell? ⟨B0,1,O⟩=Y (I J 0)/\W'.cell? ⟨B0,2,O⟩=Y (I J 0)/\W'.cell? ⟨B0,3,O⟩=Y (I J 0)/\W'.cell? ⟨b,2,O⟩=Y (Z s.ka s.kn s.kc)/\LkAt W' s.ka s.kn e.lk/\Below w.heap.size w W') (⟨t0,t2,t3,t4,t5,t6,t7,z0,z1,z2,z3,x2,hLk.below (u'.drew),hB.drew⟩) (fun hH=>?_);refine R5 0 1 2 3 4 ?_;refine R8 5 (h:=R8 6 (h:=R9 7 (h:=R9 8 (h:=R9 9 (h:=J3 ?_)))));refine R9 10 (h:=R9 11 (h:=R9 12 (h:=R9 13 (h:=R9 14 (h:=J3 ?_)))));refine R9 15 (h:=R9 16 (h:=R8 17 (h:=J3 ?_)));refine R7 ?_;obtain⟨t0,t2,t3,t4,t5,t6,t7,z0,z1,z2,z3,x2,hLk,hB⟩:=hH;go_wp2;go_ret;exact⟨TxnC.bad (by decide),hB⟩
       .go_wp2_with fail
        refine(qA twk twa twb twv _).mono ?_;rintro r9 w9⟨rfl,hw9⟩;have hB:=hB.trans (hw9.mono hB.size);obtain⟨oc,HOc⟩:∃oc,Hid (aN twk twa twb twv=oc):=⟨_,rfl⟩
        rw[HOc.out];cases hoc:(oc !=0)
        .go_wp2;go_ret;exact⟨TxnC.ok (by rw[HTt.out];exact⟨HBf.out,by simpa using hid,fun _=>by show aN twk twa twb twv=0;rw[HOc.out];simpa using hoc,fun h2=>absurd (by simpa using hs2) h2⟩),hB⟩
        .go_wp2;go_ret;exact⟨TxnC.bad (by decide),hB⟩
      .have hp:0<nu:=by omega
       have hp':(0:Int)<(nu:Int):=by omega
       go_wp2_with fail
       have kA:=f' w1 (M #[I J 0,I J 0,I J 0,I J 0] 54);have hz:(w1.alloc (M #[I J 0,I J 0,I J 0,I J 0] 54)).heap[w1.heap.size]? =Y (M #[I J 0,I J 0,I J 0,I J 0] 54 (0,0)):=aO rfl;have z0:_=Y (I J 0):=cell_of_row _ _ 0 _ _ _ hz;have z1:_=Y (I J 0):=cell_of_row _ _ 1 _ _ _ hz;have z2:_=Y (I J 0):=cell_of_row _ _ 2 _ _ _ hz;have z3:_=Y (I J 0):=cell_of_row _ _ 3 _ _ _ hz;have t0:=aC kA t0;have t2:=aC kA t2;have t3:=aC kA t3;have t4:=aC kA t4;have t5:=aC kA t5;have t6:=aC kA t6;have t7:=aC kA t7;have x2:=aC kA x2;have hLk:=hLk.below kA;have hB:=hB.trans (kA.mono hB.size);clear kA hz;rw[hB0]at z0 z1 z2 z3;generalize w1.alloc (M #[I J 0,I J 0,I J 0,I J 0] 54)=w2 at*;refine R0 (fun W'=>W'.cell? ⟨g,off+k*8,O⟩=Y (I J tid)/\W'.cell? ⟨g,off+k*8+2,O⟩=Y (I J tst)/\W'.cell? ⟨g,off+k*8+3,O⟩=Y (Z au nu cu)/\W'.cell? ⟨g,off+k*8+4,O⟩=Y (I J twk)/\W'.cell? ⟨g,off+k*8+5,O⟩=Y (I J twa)/\W'.cell? ⟨g,off+k*8+6,O⟩=Y (I J twb)/\W'.cell? ⟨g,off+k*8+7,O⟩=Y (I J twv)/\W'.cell? ⟨B0,0,O⟩=Y (I J 0)/\W'.cell? ⟨B0,1,O⟩=Y (I J 0)/\W'.cell? ⟨B0,2,O⟩=Y (I J 0)/\W'.cell? ⟨B0,3,O⟩=Y (I J 0)/\W'.cell? ⟨b,2,O⟩=Y (Z s.ka s.kn s.kc)/\LkAt W' s.ka s.kn e.lk/\Below w.heap.size w W') (⟨t0,t2,t3,t4,t5,t6,t7,z0,z1,z2,z3,x2,hLk.below (u'.drew),hB.drew⟩) (fun hH=>?_);refine R5 0 1 2 3 4 ?_;refine R5 5 6 7 8 9 ?_;refine R4 10 11 12 13 ?_;refine R6 14 (fun K hK=>?_);go_simp;refine(xL s.ka s.kn s.kc tid e.lk _ hH.2.2.2.2.2.2.2.2.2.2.2.2.1 h.2.n3).mono ?_;rintro r9 w9⟨rfl,hw9⟩;rw[HHv.out];refine hK.out _ _ ?_ (fun hH=>?_)
       .obtain⟨t0,t2,t3,t4,t5,t6,t7,z0,z1,z2,z3,x2,hLk,hB⟩:=hH;exact⟨aC hw9 t0,aC hw9 t2,aC hw9 t3,aC hw9 t4,aC hw9 t5,aC hw9 t6,aC hw9 t7,aC hw9 z0,aC hw9 z1,aC hw9 z2,aC hw9 z3,aC hw9 x2,hLk.below hw9,hB.trans (hw9.mono hB.size)⟩
       clear hK K;refine R5 15 16 17 18 19 ?_;refine R4 20 21 22 23 ?_;refine R7 ?_;obtain⟨t0,t2,t3,t4,t5,t6,t7,z0,z1,z2,z3,x2,hLk,hB⟩:=hH;go_wp2_with fail
       go_ret;exact⟨TxnC.bad (by decide),hB⟩
     .go_wp2_with fail
      have kA:=f' w1 (M #[I J 0,I J 0,I J 0,I J 0] 54);have hz:(w1.alloc (M #[I J 0,I J 0,I J 0,I J 0] 54)).heap[w1.heap.size]? =Y (M #[I J 0,I J 0,I J 0,I J 0] 54 (0,0)):=aO rfl;have z0:_=Y (I J 0):=cell_of_row _ _ 0 _ _ _ hz;have z1:_=Y (I J 0):=cell_of_row _ _ 1 _ _ _ hz;have z2:_=Y (I J 0):=cell_of_row _ _ 2 _ _ _ hz;have z3:_=Y (I J 0):=cell_of_row _ _ 3 _ _ _ hz;have t0:=aC kA t0;have t2:=aC kA t2;have t3:=aC kA t3;have t4:=aC kA t4;have t5:=aC kA t5;have t6:=aC kA t6;have t7:=aC kA t7;have x2:=aC kA x2;have hLk:=hLk.below kA;have hB:=hB.trans (kA.mono hB.size);clear kA hz;rw[hB0]at z0 z1 z2 z3;generalize w1.alloc (M #[I J 0,I J 0,I J 0,I J 0] 54)=w2 at*;refine R0 (fun W'=>W'.cell? ⟨g,off+k*8,O⟩=Y (I J tid)/\W'.cell? ⟨g,off+k*8+2,O⟩=Y (I J tst)/\W'.cell? ⟨g,off+k*8+3,O⟩=Y (Z au nu cu)/\W'.cell? ⟨g,off+k*8+4,O⟩=Y (I J twk)/\W'.cell? ⟨g,off+k*8+5,O⟩=Y (I J twa)/\W'.cell? ⟨g,off+k*8+6,O⟩=Y (I J twb)/\W'.cell? ⟨g,off+k*8+7,O⟩=Y (I J twv)/\W'.cell? ⟨B0,0,O⟩=Y (I J 0)/\W'.cell? ⟨B0,1,O⟩=Y (I J 0)/\W'.cell? ⟨B0,2,O⟩=Y (I J 0)/\W'.cell? ⟨B0,3,O⟩=Y (I J 0)/\W'.cell? ⟨b,2,O⟩=Y (Z s.ka s.kn s.kc)/\LkAt W' s.ka s.kn e.lk/\Below w.heap.size w W') (⟨t0,t2,t3,t4,t5,t6,t7,z0,z1,z2,z3,x2,hLk.below (u'.drew),hB.drew⟩) (fun hH=>?_);refine R5 0 1 2 3 4 ?_;refine R5 5 6 7 8 9 ?_;refine R4 10 11 12 13 ?_;refine R6 14 (fun K hK=>?_);go_simp;refine(xL s.ka s.kn s.kc tid e.lk _ hH.2.2.2.2.2.2.2.2.2.2.2.2.1 h.2.n3).mono ?_;rintro r9 w9⟨rfl,hw9⟩;rw[HHv.out];refine hK.out _ _ ?_ (fun hH=>?_)
      .obtain⟨t0,t2,t3,t4,t5,t6,t7,z0,z1,z2,z3,x2,hLk,hB⟩:=hH;exact⟨aC hw9 t0,aC hw9 t2,aC hw9 t3,aC hw9 t4,aC hw9 t5,aC hw9 t6,aC hw9 t7,aC hw9 z0,aC hw9 z1,aC hw9 z2,aC hw9 z3,aC hw9 x2,hLk.below hw9,hB.trans (hw9.mono hB.size)⟩
      clear hK K;refine R8 15 (h:=R9 16 (h:=R9 17 (h:=R9 18 (h:=R9 19 (h:=J3 ?_)))));refine R9 20 (h:=R9 21 (h:=R8 22 (h:=R8 23 (h:=J3 ?_))));refine R7 ?_;obtain⟨t0,t2,t3,t4,t5,t6,t7,z0,z1,z2,z3,x2,hLk,hB⟩:=hH;go_wp2_with fail
      go_ret;exact⟨TxnC.bad (by decide),hB⟩
theorem aQ4(h:eO es=0):∀e∈es,lI e=F':=by
 intro e he;unfold eO at h;split at h
 .omega
 .split at h
  .omega
  .rename_i h1 h2
   cases hq:lI e
   .rfl
   .exact absurd (List.any_eq_true.2 ⟨e,he,hq⟩) h2
theorem aJ8{t:Int}(h:rL es t=0):eO es=0/\inB t 1 999=A':=by
 unfold rL at h;by_cases h0:eO es=0
 .refine⟨h0,?_⟩;rw[h0]at h;cases hq:inB t 1 999
  .rw[hq]at h;simp at h
  .rfl
 .rw[if_pos (by simpa using h0)]at h;exact absurd h h0
theorem aZ2{t:Int}(h:rL es t=0)(h2:¬(fF (prE es) t).length=0):
  2<=(fF (prE es) t).length/\(fF (prE es) t).getD 0 0=t/\cI1 es=A'/\
  (∀i,i<(fF (prE es) t).length->(⟨(fF (prE es) t).getD i 0,(fF (prE es) t).getD ((i+1)%(fF (prE es) t).length) 0⟩:Hold)∈es)/\
  (∀i,i<(fF (prE es) t).length->((fF (prE es) t).take i).contains ((fF (prE es) t).getD i 0)=F'):=by
 obtain⟨hf,ht⟩:=aJ8 h;have hfine:=aQ4 hf;obtain⟨l,hl,hl0,hnd,hlk⟩:=cM6 (es:=prE es) (t:=t) (fun e he=>by
   unfold prE at he;obtain⟨x,hx,rfl⟩:=List.mem_map.1 he;have:=hfine x hx;unfold lI inB at this;simp only[Bool.or_eq_false_iff,Bool.not_eq_false',Bool.and_eq_true,decide_eq_true_eq]at this;show 0<x.m;omega) (fun hm=>by
   have:=hfine _ (xV.1 hm);unfold lI at this;simp at this) h2
 have hat:=Links.at l t hlk;rw[hl];have hlen:(t::l).length=l.length+1:=rfl;refine⟨by rw[hlen];omega,rfl,?_,fun i hi=>?_,fun i hi=>?_⟩
 .have h0:=xV.1 (hat 0 (by omega));unfold cI1;rw[hf];simp only[beq_self_eq_true,Bool.true_and];refine List.any_eq_true.2 ⟨_,h0,?_⟩;have hq:(fF (prE es) ((t::l).getD 0 0)).length≠0:=h2;unfold cI0;exact decide_eq_true (Nat.pos_of_ne_zero hq)
 .rw[hlen]at hi⊢;have:=xV.1 (hat i hi);rcases Nat.lt_or_ge (i+1) (l.length+1)with hlt|hge
  .rw[Nat.mod_eq_of_lt hlt];have e4:((t::l)++[t]).getD (i+1) 0=(t::l).getD (i+1) 0:=by unfold List.getD;rw[List.getElem?_append_left (by simpa using hlt)]
   rw[e4]at this;exact this
  .have e1:i+1=l.length+1:=by omega
   rw[e1,Nat.mod_self];rw[e1]at this;have e2:((t::l)++[t]).getD (l.length+1) 0=t:=by unfold List.getD;rw[List.getElem?_append_right (by simp)];simp
   rw[e2]at this;exact this
 .cases hq:((t::l).take i).contains ((t::l).getD i 0)
  .rfl
  .exfalso;have hm:(t::l).getD i 0∈(t::l).take i:=by simpa using hq
   obtain⟨j,hj,he⟩:=List.getElem_of_mem hm;simp only[List.length_take]at hj;rw[List.getElem_take]at he;have e3:(t::l).getD i 0=(t::l)[i]:=by unfold List.getD;rw[List.getElem?_eq_getElem hi];rfl
   rw[e3]at he;rw[List.nodup_iff_pairwise_ne,List.pairwise_iff_getElem]at hnd;exact hnd j i (by omega) hi (by omega) he
end Go.Proofs.YtpbbokalojdooaaGreat
