import Derived.Test.YtpbbokalojdooaaGreatWam
namespace Go.Proofs.YtpbbokalojdooaaGreat
open Go.RowKit Ch Go.Proofs.Tryz
set_option linter.unusedSimpArgs false
set_option linter.unusedVariables false
set_option maxRecDepth 20000
set_option maxHeartbeats 8000000
open Value renaming int->I,slice->Z,bool->X,agg->U
open IntKind renaming i64->J
open Option renaming none->O,some->Y
open Obj renaming cells->M
open Ending renaming returned->R'
open Bool renaming true->A',false->F'
variable {h:Hold} {m r:Int} {hs q qs:List Hold} {zs:List Int} {ls:List Lock} {xs:List Value} {l x:Lock} {H i k n sz:Nat} {P:Nat->Bool} {T T':Nat->Nat} {a:Option Addr} {row:Option Nat} {t:TypeId} {v:Value} {w w':World}
def gU(P:Nat->Bool)(w:World):World:={w with heap:=w.heap.mapIdx fun i o=>if P i then o else M #[] 0 (0,0)}
theorem cS1(P:Nat->Bool)(w:World)(i:Nat):(gU P w).heap[i]? =(w.heap[i]?).map fun o=>if P i then o else M #[] 0 (0,0):=by unfold gU;simp[Array.getElem?_mapIdx]
theorem gS{a:Addr}(h:(gU P w).cell? a=Y v):w.cell? a=Y v/\P a.block=A':=by
 unfold World.cell? at*;rw[cS1]at h;cases hb:w.heap[a.block]? with
 |none=>rw[hb]at h;simp at h
 |some o=>
  rw[hb]at h;cases hp:P a.block
  .rw[hp]at h;simp at h
  .rw[hp]at h;exact⟨by simpa using h,rfl⟩
theorem kZ{a:Addr}(h:w.cell? a=Y v)(hp:P a.block=A'):(gU P w).cell? a=Y v:=by
 unfold World.cell? at*;rw[cS1];cases hb:w.heap[a.block]? with
 |none=>rw[hb]at h;simp at h
 |some o=>rw[hb]at h;rw[hp];simpa using h
def cT0(w w':World):Prop:=∀(b o:Nat) (v:Value),w.cell? ⟨b,o,O⟩=Y v->w'.cell? ⟨b,o,O⟩=Y v
theorem CellsAt.sub{m:Nat}(h:CellsAt w a m xs)(hs:cT0 w w'):CellsAt w' a m xs:=by refine⟨h.1,fun h0=>?_⟩;obtain⟨b,off,ha,hi⟩:=h.2 h0;refine⟨b,off,ha,fun i hlt=>?_⟩;have h1:=hi i hlt;have h2:xs[i]? =Y (xs[i]'(by have:=h.1;omega)):=Ao _;rw[h2]at h1⊢;exact hs _ _ _ h1
theorem LvAt.sub{ls:List (List Row)}(h:LvAt w a n ls)(hs:cT0 w w'):LvAt w' a n ls:=by obtain⟨hl,vs,hc,hi⟩:=h;refine⟨hl,vs,hc.sub hs,fun i hlt=>?_⟩;obtain⟨ai,ni,ci,h1,h2,h3⟩:=hi i hlt;exact⟨ai,ni,ci,h1,h2.sub hs,h3⟩
theorem LkAt.sub(h:LkAt w a n ls)(hs:cT0 w w'):LkAt w' a n ls:=by refine⟨h.1,fun h0=>?_⟩;obtain⟨b,off,ha,hi⟩:=h.2 h0;refine⟨b,off,ha,fun i hlt=>?_⟩;obtain⟨ah,nh,ch,aq,nq,cq,h0,h1,h2,h3,h4,h5⟩:=hi i hlt;exact⟨ah,nh,ch,aq,nq,cq,hs _ _ _ h0,hs _ _ _ h1,hs _ _ _ h2,h3.sub hs,h4.sub hs,h5⟩
theorem fK:cT0 (gU P w) w:=fun _ _ _ h=>(gS h).1
def Kp(k:Nat)(T T':Nat->Nat)(w w':World):Prop:=∀x,x<w.heap.size->T x=k->w'.heap[x]? =w.heap[x]? /\T' x=k
theorem Kp.refl(k:Nat)(T:Nat->Nat)(w:World):Kp k T T w w:=fun _ _ h=>⟨rfl,h⟩
theorem Kp.trans{T'':Nat->Nat}{w'':World}(h:Kp k T T' w w')(h':Kp k T' T'' w' w'')(hs:w.heap.size<=w'.heap.size):Kp k T T'' w w'':=by intro x hx ht;obtain⟨h1,h2⟩:=h x hx ht;obtain⟨h3,h4⟩:=h' x (by omega) h2;exact⟨h3.trans h1,h4⟩
def mrk(T:Nat->Nat)(H k:Nat):Nat->Nat:=fun x=>if x<H then T x else k
theorem aY(hb:V' w w')(T:Nat->Nat)(j k:Nat):Kp k T (mrk T w.heap.size j) w w':=by intro x hx ht;exact⟨hb.block x hx,by unfold mrk;rw[if_pos hx];exact ht⟩
theorem dF(hg:w.grownBy w' row){j:Nat}(hr:∀g,row=Y g->T g=j)(hk:k≠j):Kp k T (mrk T w.heap.size j) w w':=by intro x hx ht;refine⟨hg.block x hx fun he=>hk ?_,by unfold mrk;rw[if_pos hx];exact ht⟩;rw[<-ht];exact hr x he.symm
theorem kL{g o j:Nat}(hr:T g=j)(hk:k≠j):Kp k T T w (w.setCell ⟨g,o,O⟩ v):=by intro x hx ht;refine⟨Bu _ _ _ _ ?_,ht⟩;intro e;simp at e;subst e;omega
def Ice(T:Nat->Nat):Nat->Bool:=fun x=>T x==0
theorem eE(hk:Kp 0 T T' w w'):cT0 (gU (Ice T) w) (gU (Ice T') w'):=by intro b o v h;obtain⟨h1,h2⟩:=gS h;have hlt:b<w.heap.size:=aD h1;obtain⟨h3,h4⟩:=hk b hlt (by simpa[Ice]using h2);refine kZ ?_ (by simp[Ice,h4]);rw[Eu (w:=w) (w':=w') h3];exact h1
def OwnT(w:World)(H:Nat)(T:Nat->Nat)(k:Nat)(t:TypeId)(sz:Nat)(v:Value)(n:Nat)(xs:List Value):Prop:=
 w.ownsRow H t sz v n xs/\∀g,v.ownBlock=Y g->T g=k
theorem OwnT.kept(h:OwnT w H T k t sz v n xs)(hk:Kp k T T' w w'):OwnT w' H T' k t sz v n xs:=by
 refine⟨⟨h.1.1,?_⟩,fun g hg=>(hk g (aH h.1 g hg).2 (h.2 g hg)).2⟩;rcases h.1.2 with h1|⟨g,cap,cur,hv,hb,hc,hr⟩
 .exact .inl h1
 .refine .inr ⟨g,cap,cur,hv,hb,?_,hr⟩;rw[(hk g (Ab.1 hc).1 (h.2 g (by rw[hv];rfl))).1];exact hc
theorem OwnT.cells{c:Nat}(h:OwnT w H T k t sz (Z a n c) n xs):CellsAt w a (n*sz) xs:=aO h.1
theorem OwnT.new{w0:World}(h:w.ownsRow w0.heap.size t sz v n xs)(hH:H<=w0.heap.size):OwnT w H (mrk T w0.heap.size k) k t sz v n xs:=by refine⟨aQ h hH,fun g hg=>?_⟩;have:=(aH h g hg).1;unfold mrk;rw[if_neg (by omega)]
theorem OwnT.grown{v':Value}{n':Nat}{xs':List Value}(h:OwnT w H T k t sz v n xs)(h':w'.ownsRow H t sz v' n' xs')(hv:∀g,v'.ownBlock=Y g->v.ownBlock=Y g\/w.heap.size<=g):OwnT w' H (mrk T w.heap.size k) k t sz v' n' xs':=by
 refine⟨h',fun g hg=>?_⟩;unfold mrk;rcases hv g hg with h1|h1
 .rw[if_pos (aH h.1 g h1).2];exact h.2 g h1
 .rw[if_neg (by omega)]
def dP7(r:Ending):Prop:=∃v,r=R' (X v)
theorem dB5(v:Bool):dP7 (R' (X v)):=⟨v,rfl⟩
theorem CellsAt.itake(h:CellsAt w a (n*1) (icells zs))(hk:k<=n):CellsAt w a (k*1) (icells (zs.take k)):=by have h1:=zA h (k:=k*1) (by omega);simpa[icells,List.map_take]using h1
theorem cW1{e:Eng}{t:Int}(h:isT e t=A'):∃j:Nat,j<e.tx.length/\t=(j:Int)+1:=by unfold isT inB at h;simp at h;exact⟨(t-1).toNat,by omega,by omega⟩
theorem wX(b:Nat)(s:EgS)(e:Eng)(w:World)(h:EgP w b s e):
  Calls prog 179 #[.pointer (Y ⟨b,0,O⟩)] w fun r w'=>dP7 r/\V' w w':=by
 have HL:=h.2.cm.ilen;have HT:=h.2.tx.len;have hn:=h.2.n8;have hc8:=h.2.c8;have hm:=h.2.n4;obtain⟨x0,x1,x2,x3,x4,x5,x6,x7,x8,x9⟩:=h.all;have hbl:=h.lt;clear x0 x1 x2 x4 x5 x6 x7 x9;have IA:=fun v W hW=>aI5 s.ma s.mn s.mc v e.cm W hW (by omega);go_enter func179,ntmps179
 go_wp2;go_loopw [3] (fun i wr=>∃k:Nat,k<=s.mn/\i=I J k/\V' w wr) (fun i _=>s.mn-(intOf i).toNat)
 case atStart=>exact⟨0,Ad _,rfl,Aa _ _⟩
 case round=>
  obtain⟨k,hk,rfl,hB⟩:=hrel;have h':=h.below hB;have x3:=keep_cell hB x3;have x8:=keep_cell hB x8;have hbl:b<wr.heap.size:=h'.lt;by_cases hlt:k<s.mn
  .obtain⟨g,off,hao,q0⟩:=h'.2.cm.int hlt;have hkc:k<=s.mc:=by omega
   have hgl:=aD q0;have II:=fun W hW=>oP b s e (e.cm.getD k 0) W hW;have IB:=fun v W hW=>aI5 s.ma k s.mc v (e.cm.take k) W hW (by omega);have hTk:=h'.2.cm.itake (Nat.le_of_lt hlt);have HI:=hid (fun hv=>cW1 (e:=e) (t:=e.cm.getD k 0) hv);generalize e.cm.getD k 0=c at*;have x8':=x8;rw[hao]at x8' IB hTk;clear x8;cases hv:isT e c
   .rw[hv]at II;go_wp2_with fail
    refine R0 (fun W'=>W'.cell? ⟨b,8,O⟩=Y (Z (Y ⟨g,off,O⟩) s.mn s.mc)/\W'.cell? ⟨g,off+k,O⟩=Y (I J c)/\EgP W' b s e/\V' w W') (⟨x8',q0,h.below hB.drew,hB.drew⟩) (fun hH=>?_);refine R5 0 1 2 3 4 ?_;refine R3 5 6 7 ?_;refine R6 8 (fun K hK=>?_);go_simp;refine(II _ hH.2.2.1).mono ?_;rintro r9 w9⟨rfl,hw9⟩;obtain rfl:=hw9.symm;refine hK.out _ _ ?_ (fun hH=>?_)
    .exact hH
    clear hK K;refine R8 9 (h:=R8 10 (h:=R9 11 (h:=R9 12 (h:=R9 13 (h:=J3 ?_)))));refine R9 14 (h:=R9 15 (h:=R9 16 (h:=R9 17 (h:=R9 18 (h:=J3 ?_)))));refine R9 19 (h:=R9 20 (h:=R9 21 (h:=R9 22 (h:=R9 23 (h:=J3 ?_)))));refine R9 24 (h:=R9 25 (h:=R9 26 (h:=R8 27 (h:=R8 28 (h:=J3 ?_)))));refine R9 29 (h:=R9 30 (h:=R9 31 (h:=R9 32 (h:=R9 33 (h:=J3 ?_)))));refine R9 34 (h:=R9 35 (h:=R9 36 (h:=R9 37 (h:=R9 38 (h:=J3 ?_)))));refine R9 39 (h:=R9 40 (h:=R9 41 (h:=R9 42 (h:=R8 43 (h:=J3 ?_)))));refine R7 ?_;go_wp2;go_ret;exact⟨dB5 _,hH.2.2.2⟩
   .rw[hv]at II;obtain⟨j,hj,hcj⟩:=HI.out hv;have hjt:j<s.tn:=by have:=HT.out;omega
    obtain⟨o,of,au,nu,cu,hta,t0,t1,t2,t3,t4,t5,t6,t7,_,_⟩:=h'.2.tx.txn hjt;have x3':=x3;rw[hta]at x3';have hol:=aD t0;have hw:IntKind.i64.wrap (c-1)=(j:Int):=by rw[hcj,show(j:Int)+1-1=(j:Int)by omega];exact Br _ ⟨by omega,by omega⟩
    clear hcj;generalize(aS e.tx j).st=st at*;clear HI x3;cases hs:(st !=3)
    .obtain⟨cv,HCV⟩:∃cv,Hid ((e.cm.take k).contains c=cv):=⟨_,rfl⟩
     cases cv
     .go_wp2_with fail
      refine R0 (fun W'=>W'.cell? ⟨b,8,O⟩=Y (Z (Y ⟨g,off,O⟩) s.mn s.mc)/\W'.cell? ⟨g,off+k,O⟩=Y (I J c)/\EgP W' b s e/\W'.cell? ⟨b,3,O⟩=Y (Z (Y ⟨o,of,O⟩) s.tn s.tc)/\W'.cell? ⟨o,of+j*8+2,O⟩=Y (I J st)/\CellsAt W' (Y ⟨g,off,O⟩) (k*1) (icells (e.cm.take k))/\V' w W') (⟨x8',q0,h.below hB.drew,x3',t2,hTk.below ((Aa _ _).drew),hB.drew⟩) (fun hH=>?_);refine R5 0 1 2 3 4 ?_;refine R3 5 6 7 ?_;refine R6 8 (fun K hK=>?_);go_simp;refine(II _ hH.2.2.1).mono ?_;rintro r9 w9⟨rfl,hw9⟩;obtain rfl:=hw9.symm;refine hK.out _ _ ?_ (fun hH=>?_)
      .exact hH
      clear hK K;refine R5 9 10 11 12 13 ?_;refine R5 14 15 16 17 18 ?_;refine R5 19 20 21 22 23 ?_;refine R5 24 25 26 27 28 ?_;refine R5 29 30 31 32 33 ?_;refine R5 34 35 36 37 38 ?_;refine R3 39 40 41 ?_;refine R6 42 (fun K hK=>?_);go_simp;refine(IB _ _ hH.2.2.2.2.2.1).mono ?_;rintro r9 w9⟨rfl,hw9⟩;obtain rfl:=hw9.symm;rw[HCV.out];refine hK.out _ _ ?_ (fun hH=>?_)
      .exact hH
      clear hK K;refine R1 43 ?_;refine R7 ?_;go_wp2;go_round
      case rel=>exact⟨k+1,by omega,by go_num,hH.2.2.2.2.2.2⟩
      case measure=>simp[intOf];omega
     .go_wp2_with fail
      refine R0 (fun W'=>W'.cell? ⟨b,8,O⟩=Y (Z (Y ⟨g,off,O⟩) s.mn s.mc)/\W'.cell? ⟨g,off+k,O⟩=Y (I J c)/\EgP W' b s e/\W'.cell? ⟨b,3,O⟩=Y (Z (Y ⟨o,of,O⟩) s.tn s.tc)/\W'.cell? ⟨o,of+j*8+2,O⟩=Y (I J st)/\CellsAt W' (Y ⟨g,off,O⟩) (k*1) (icells (e.cm.take k))/\V' w W') (⟨x8',q0,h.below hB.drew,x3',t2,hTk.below ((Aa _ _).drew),hB.drew⟩) (fun hH=>?_);refine R5 0 1 2 3 4 ?_;refine R3 5 6 7 ?_;refine R6 8 (fun K hK=>?_);go_simp;refine(II _ hH.2.2.1).mono ?_;rintro r9 w9⟨rfl,hw9⟩;obtain rfl:=hw9.symm;refine hK.out _ _ ?_ (fun hH=>?_)
      .exact hH
      clear hK K;refine R5 9 10 11 12 13 ?_;refine R5 14 15 16 17 18 ?_;refine R5 19 20 21 22 23 ?_;refine R5 24 25 26 27 28 ?_;refine R5 29 30 31 32 33 ?_;refine R5 34 35 36 37 38 ?_;refine R3 39 40 41 ?_;refine R6 42 (fun K hK=>?_);go_simp;refine(IB _ _ hH.2.2.2.2.2.1).mono ?_;rintro r9 w9⟨rfl,hw9⟩;obtain rfl:=hw9.symm;rw[HCV.out];refine hK.out _ _ ?_ (fun hH=>?_)
      .exact hH
      clear hK K;refine R1 43 ?_;refine R7 ?_;go_wp2;go_ret;exact⟨dB5 _,hH.2.2.2.2.2.2⟩
    .go_wp2_with fail
     refine R0 (fun W'=>W'.cell? ⟨b,8,O⟩=Y (Z (Y ⟨g,off,O⟩) s.mn s.mc)/\W'.cell? ⟨g,off+k,O⟩=Y (I J c)/\EgP W' b s e/\W'.cell? ⟨b,3,O⟩=Y (Z (Y ⟨o,of,O⟩) s.tn s.tc)/\W'.cell? ⟨o,of+j*8+2,O⟩=Y (I J st)/\CellsAt W' (Y ⟨g,off,O⟩) (k*1) (icells (e.cm.take k))/\V' w W') (⟨x8',q0,h.below hB.drew,x3',t2,hTk.below ((Aa _ _).drew),hB.drew⟩) (fun hH=>?_);refine R5 0 1 2 3 4 ?_;refine R3 5 6 7 ?_;refine R6 8 (fun K hK=>?_);go_simp;refine(II _ hH.2.2.1).mono ?_;rintro r9 w9⟨rfl,hw9⟩;obtain rfl:=hw9.symm;refine hK.out _ _ ?_ (fun hH=>?_)
     .exact hH
     clear hK K;refine R5 9 10 11 12 13 ?_;refine R5 14 15 16 17 18 ?_;refine R5 19 20 21 22 23 ?_;refine R5 24 25 26 27 28 ?_;refine R9 29 (h:=R9 30 (h:=R9 31 (h:=R9 32 (h:=R9 33 (h:=J3 ?_)))));refine R9 34 (h:=R9 35 (h:=R9 36 (h:=R9 37 (h:=R9 38 (h:=J3 ?_)))));refine R9 39 (h:=R9 40 (h:=R9 41 (h:=R9 42 (h:=R8 43 (h:=J3 ?_)))));refine R7 ?_;go_wp2;go_ret;exact⟨dB5 _,hH.2.2.2.2.2.2⟩
  .obtain rfl:k=s.mn:=by omega
   go_wp2;go_loopw [4] (fun i wr=>∃k:Nat,k<=s.tn/\i=I J k/\V' w wr) (fun i _=>s.tn-(intOf i).toNat)
   case atStart=>exact⟨0,Ad _,rfl,hB⟩
   case round=>
    obtain⟨k,hk,rfl,hB⟩:=hrel;have h':=h.below hB;obtain⟨_,_,_,x3,_,_,_,_,x8,_⟩:=h'.all;have hbl:=h'.lt;by_cases hlt:k<s.tn
    .obtain⟨o,of,au,nu,cu,hta,t0,t1,t2,t3,t4,t5,t6,t7,_,_⟩:=h'.2.tx.txn hlt;have x3':=x3;rw[hta]at x3';have hol:=aD t0;generalize aS e.tx k=tt at*;obtain⟨tid,tsy,st,tun,twk,twa,twb,twv⟩:=tt;simp only at t0 t1 t2 t3 t4 t5 t6 t7;clear x3;cases hs:(st==3)
     .go_wp2_with fail
      refine R0 (fun W'=>W'.cell? ⟨b,8,O⟩=Y (Z s.ma s.mn s.mc)/\W'.cell? ⟨b,3,O⟩=Y (Z (Y ⟨o,of,O⟩) s.tn s.tc)/\W'.cell? ⟨o,of+k*8,O⟩=Y (I J tid)/\W'.cell? ⟨o,of+k*8+2,O⟩=Y (I J st)/\CellsAt W' s.ma (s.mn*1) (icells e.cm)/\V' w W') (⟨x8,x3',t0,t2,h'.2.cm.below ((Aa _ _).drew),hB.drew⟩) (fun hH=>?_);refine R5 0 1 2 3 4 ?_;refine R5 5 6 7 8 9 ?_;refine R9 10 (h:=R9 11 (h:=R9 12 (h:=R9 13 (h:=R9 14 (h:=J3 ?_)))));refine R9 15 (h:=R9 16 (h:=R9 17 (h:=R9 18 (h:=R9 19 (h:=J3 ?_)))));refine R9 20 (h:=R9 21 (h:=R9 22 (h:=R9 23 (h:=R8 24 (h:=J3 ?_)))));refine R7 ?_;go_wp2;go_round
      case rel=>exact⟨k+1,by omega,by go_num,hH.2.2.2.2.2⟩
      case measure=>simp[intOf];omega
     .obtain⟨cv,HCV⟩:∃cv,Hid (e.cm.contains tid=cv):=⟨_,rfl⟩
      cases cv
      .go_wp2_with fail
       refine R0 (fun W'=>W'.cell? ⟨b,8,O⟩=Y (Z s.ma s.mn s.mc)/\W'.cell? ⟨b,3,O⟩=Y (Z (Y ⟨o,of,O⟩) s.tn s.tc)/\W'.cell? ⟨o,of+k*8,O⟩=Y (I J tid)/\W'.cell? ⟨o,of+k*8+2,O⟩=Y (I J st)/\CellsAt W' s.ma (s.mn*1) (icells e.cm)/\V' w W') (⟨x8,x3',t0,t2,h'.2.cm.below ((Aa _ _).drew),hB.drew⟩) (fun hH=>?_);refine R5 0 1 2 3 4 ?_;refine R5 5 6 7 8 9 ?_;refine R5 10 11 12 13 14 ?_;refine R5 15 16 17 18 19 ?_;refine R2 20 21 ?_;refine R6 22 (fun K hK=>?_);go_simp;refine(IA _ _ hH.2.2.2.2.1).mono ?_;rintro r9 w9⟨rfl,hw9⟩;obtain rfl:=hw9.symm;rw[HCV.out];refine hK.out _ _ ?_ (fun hH=>?_)
       .exact hH
       clear hK K;refine R2 23 24 ?_;refine R7 ?_;go_wp2;go_ret;exact⟨dB5 _,hH.2.2.2.2.2⟩
      .go_wp2_with fail
       refine R0 (fun W'=>W'.cell? ⟨b,8,O⟩=Y (Z s.ma s.mn s.mc)/\W'.cell? ⟨b,3,O⟩=Y (Z (Y ⟨o,of,O⟩) s.tn s.tc)/\W'.cell? ⟨o,of+k*8,O⟩=Y (I J tid)/\W'.cell? ⟨o,of+k*8+2,O⟩=Y (I J st)/\CellsAt W' s.ma (s.mn*1) (icells e.cm)/\V' w W') (⟨x8,x3',t0,t2,h'.2.cm.below ((Aa _ _).drew),hB.drew⟩) (fun hH=>?_);refine R5 0 1 2 3 4 ?_;refine R5 5 6 7 8 9 ?_;refine R5 10 11 12 13 14 ?_;refine R5 15 16 17 18 19 ?_;refine R2 20 21 ?_;refine R6 22 (fun K hK=>?_);go_simp;refine(IA _ _ hH.2.2.2.2.1).mono ?_;rintro r9 w9⟨rfl,hw9⟩;obtain rfl:=hw9.symm;rw[HCV.out];refine hK.out _ _ ?_ (fun hH=>?_)
       .exact hH
       clear hK K;refine R2 23 24 ?_;refine R7 ?_;go_wp2;go_round
       case rel=>exact⟨k+1,by omega,by go_num,hH.2.2.2.2.2⟩
       case measure=>simp[intOf];omega
    .obtain rfl:k=s.tn:=by omega
     go_wp2;go_ret;exact⟨dB5 _,hB⟩
theorem aR1(h:x∈bQ r ls):x∈ls\/x=⟨r,[],[]⟩:=by
 unfold bQ at h;split at h
 .exact .inl h
 .simp only[Aj,Cp]at h;rcases h with(h|h)|h
  .exact .inl (Cg h)
  .exact .inr h
  .exact .inl (Cz h)
theorem qV(h:i<ls.length):aI ls i∈ls:=by unfold aI;rw[Bt,Ao h];exact Ce h
theorem uF(h:x∈ls):∃i,i<ls.length/\aI ls i=x:=by obtain⟨i,hi,rfl⟩:=Cy.1 h;refine⟨i,hi,?_⟩;unfold aI;rw[Bt,Ao hi];rfl
theorem rA(h:aT ls=0)(hx:x∈ls):dL x=0:=by obtain⟨i,hi,rfl⟩:=uF hx;exact(iM ((eT h).1 i hi)).2.2.2
theorem aR0(h:aT ls=0)(r:Int):(aI (bQ r ls) (aX r ls)).hs.length<=20/\(aI (bQ r ls) (aX r ls)).qs.length<=20/\bO (aI (bQ r ls) (aX r ls)).hs=A'/\bO (aI (bQ r ls) (aX r ls)).qs=A':=by
 rcases aR1 (qV (qT r ls).1)with hx|hx
 .have:=fU (rA h hx);exact⟨this.1,this.2.1,this.2.2.1,this.2.2.2.1⟩
 .rw[hx];exact⟨by simp,by simp,rfl,rfl⟩
theorem qY(h:inB m 1 5=A'):eJ 0 m=F':=by
 simp only[inB,Bq,Cs]at h;obtain rfl|rfl|rfl|rfl|rfl:m=1\/m=2\/m=3\/m=4\/m=5:=by omega
 all_goals rfl
theorem bD6(h:inB m 1 5=A'):eX 0 m=m:=by
 simp only[inB,Bq,Cs]at h;obtain rfl|rfl|rfl|rfl|rfl:m=1\/m=2\/m=3\/m=4\/m=5:=by omega
 all_goals rfl
theorem aM3(h:inB m 1 5=A'):Ch.isM m=A':=by simp only[Ch.isM,inB,Bq,Cs]at h⊢;omega
theorem bS5(hs:List Hold)(h:Hold):0<(iZ hs h).length:=by
 unfold iZ;split
 .next hh=>
  rw[List.length_set];cases hs with
  |nil=>simp[aV]at hh
  |cons=>simp
 .simp
theorem xD(h0:(dV l k h).2.1=0):0<(dV l k h).2.2.hs.length+(dV l k h).2.2.qs.length:=by
 unfold dV at h0⊢;split
 .next hh=>rw[if_pos hh]at h0;simp at h0
 .simp;omega
theorem xC(l:Lock)(k:Nat)(h:Hold)(hk:k<=l.qs.length):(dV l k h).2.2.hs.length+(dV l k h).2.2.qs.length<=l.hs.length+l.qs.length+1:=by
 unfold dV;split
 .simp only;omega
 .simp;omega
theorem bW1{t:Int}(hm:inB m 1 5=A')(h0:(cR l t m).2.1=0):0<(cR l t m).2.2.hs.length+(cR l t m).2.2.qs.length:=by
 unfold cR at h0⊢;split
 .next hc=>
  simp only;rcases Ei l.hs.length with h|h
  .have:l.hs=[]:=Dd.1 h;rw[this,show bT [] t=0 from rfl,qY hm]at hc;cases hc
  .omega
 .next hc=>
  rw[if_neg hc]at h0;split
  .next h1=>rw[if_pos h1]at h0;exact xD h0
  .next h1=>
   rw[if_neg h1]at h0;split
   .next h2=>rw[if_pos h2]at h0;exact xD h0
   .next h2=>
    rw[if_neg h2]at h0;split
    .next h3=>rw[if_pos h3]at h0;simp at h0
    .simp only;have:=bS5 l.hs ⟨t,eX (bT l.hs t) m⟩;omega
theorem bA7(l:Lock)(t m:Int):(cR l t m).2.2.hs.length+(cR l t m).2.2.qs.length<=l.hs.length+l.qs.length+1:=by
 unfold cR;split
 .simp only;omega
 .split
  .exact xC _ _ _ z'
  .split
   .exact xC _ _ _ (uQ _ _)
   .split
    .simp only;omega
    .simp only;have:=nQ l.hs ⟨t,eX (bT l.hs t) m⟩;omega
theorem aB0(hi:i<(bQ r ls).length)(hn:i≠aX r ls):aI (bQ r ls) i∈ls:=by
 unfold bQ at hi⊢;split
 .next h=>rw[if_pos h]at hi;exact qV hi
 .next h=>
  rw[if_neg h]at hi;have hp:=xJ r ls;rw[xH _ _ _ _ hp];have hl:i<ls.length+1:=by simp at hi;omega
  split
  .next h1=>exact qV (by omega)
  .next h1=>exact qV (by omega)
def gV(ls:List Lock)(t r m:Int):List Lock:=(bQ r ls).set (aX r ls) (lQ ls t r m).2.2
theorem bA6{t:Int}(h:x∈gV ls t r m):x∈ls\/x=(lQ ls t r m).2.2:=by
 obtain⟨i,hi,rfl⟩:=uF h;unfold gV at hi⊢;rw[yH _ _ _ _ (qT r ls).1];split
 .exact .inr rfl
 .next hn=>exact .inl (aB0 (by simpa using hi) (fun e=>hn e.symm))
theorem bL4(hg:aT ls=0)(t r m:Int):dS (gV ls t r m)<=5000:=by
 have h1:∀x∈gV ls t r m,x.hs.length+x.qs.length<=41:=by
  intro x hx;rcases bA6 hx with h|h
  .have:=fU (rA hg h);omega
  .rw[h];have h2:=bA7 (aI (bQ r ls) (aX r ls)) t m;have h3:=aR0 hg r;unfold lQ;omega
 have h2:=xP h1;have h3:=nC hg;have h4:=(qT r ls).2;have h5:(gV ls t r m).length=(bQ r ls).length:=by unfold gV;simp
 rw[h5]at h2;have:(41+1)*(bQ r ls).length<=(41+1)*102:=Nat.mul_le_mul_left _ (by omega);omega
namespace Ch
def Cv(hs:List Hold)(q:Hold):Prop:=aV hs q.t=A'/\q.m≠bT hs q.t/\eJ q.m (bT hs q.t)=A'
def dO1(hs qs:List Hold):Prop:=∃a b,qs=a++b/\(∀x∈a,Cv hs x)/\(∀x∈b,aV hs x.t=F')
theorem aX2(a b:List Hold)(h:i<a.length):(a++b).getD i Hold.zero=a.getD i Hold.zero:=by simp[List.getD,Av h]
theorem aM0(a b:List Hold)(h:a.length<=i):(a++b).getD i Hold.zero=b.getD (i-a.length) Hold.zero:=by simp[List.getD,Ay h]
theorem zJ{l:List Hold}(h:i<l.length):l.getD i Hold.zero∈l:=by rw[Bt,Ao h];exact Ce h
theorem bQ6{l:List Hold}{x:Hold}(h:x∈l):∃i,i<l.length/\l.getD i Hold.zero=x:=by obtain⟨i,hi,e⟩:=Co h;exact⟨i,hi,by rw[Bt,Ao hi];exact e⟩
theorem dP4(h:qOk hs qs=A'):dO1 hs qs:=by
 have H:=mQ.1 h;have hle:=uQ hs qs;refine⟨qs.take (dB hs qs),qs.drop (dB hs qs),(Ci _ _).symm,?_,?_⟩
 .intro x hx;obtain⟨i,hi,e⟩:=bQ6 hx;simp at hi;have hi:i<dB hs qs/\i<qs.length:=by omega
  have e':qs.getD i Hold.zero=x:=by rw[<-e];simp[List.getD,hi.1]
  have hh:=tC hs qs hi.1;have hs':=H i hi.2;rw[e']at hh;refine⟨hh,?_,?_⟩
  .intro em;rw[aF0 (by rw[e'];exact hh) (by rw[e'];exact em)]at hs';cases hs'
  .cases hc:eJ x.m (bT hs x.t)
   .rw[aO5 (by rw[e'];exact hh) (by rw[e'];exact hc)]at hs';cases hs'
   .rfl
 .intro x hx;obtain⟨i,hi,e⟩:=bQ6 hx;simp at hi;have e':qs.getD (dB hs qs+i) Hold.zero=x:=by rw[<-e];simp[List.getD]
  cases hh:aV hs x.t
  .rfl
  .have hs':=H (dB hs qs+i) (by omega);rw[wF (by rw[e'];exact hh) (by omega)]at hs';cases hs'
theorem dG4(h:dO1 hs qs):qOk hs qs=A':=by
 obtain⟨a,b,rfl,ha,hb⟩:=h;have hc:dB hs (a++b)=a.length:=by
  refine yO (by simp) (fun j hj=>?_) (fun hk=>?_)
  .rw[aX2 a b hj];exact(ha _ (zJ hj)).1
  .rw[aM0 a b z'];refine hb _ (zJ ?_);simp at hk;omega
 refine xL fun i hi=>?_;by_cases hl:i<a.length
 .have:=ha _ (zJ hl);rw[<-aX2 a b hl]at this;exact aE9 (by omega) this.2.1 this.2.2
 .refine xM ?_;rw[aM0 a b (by omega)];refine hb _ (zJ ?_);simp at hi;omega
structure Gx(l:Lock):Prop where
 hl:l.hs.length<=20
 ql:l.qs.length<=20
 hn:bO l.hs=A'
 qn:bO l.qs=A'
 h2:cS l.hs=F'
 q2:cS l.qs=F'
 fit:iX l.hs=A'
 ord:dO1 l.hs l.qs
theorem Gx.gd(g:Gx l)(h:eL l.hs l.qs=F'):Gd l:=⟨g.hl,g.ql,g.hn,g.qn,g.h2,g.q2,g.fit,dG4 g.ord,h⟩
theorem gX{t:Int}{x:Hold}:x∈aJ hs t↔x∈hs/\x.t≠t:=by simp[aJ]
theorem nT(hs:List Hold)(t s:Int):aV (aJ hs t) s=(aV hs s&&!(s==t)):=by
 rw[Fe,dO];simp only[gX,Bq,dO,Ec,Cq];constructor
 .rintro⟨h,⟨h1,h2⟩,rfl⟩;exact⟨⟨h,h1,rfl⟩,h2⟩
 .rintro⟨⟨h,h1,rfl⟩,h2⟩;exact⟨h,⟨h1,h2⟩,rfl⟩
theorem bV6(hs:List Hold)(t:Int):aV (aJ hs t) t=F':=by rw[nT];simp
theorem aY7{t:Int}(h:aV hs t=F'):bT hs t=0:=by
 rcases eI hs t with⟨_,_,e⟩|⟨_,_,_,e,_⟩
 .exact e
 .rw[h]at e;cases e
theorem bI5(h2:cS hs=F'){t s:Int}(hne:s≠t):bT (aJ hs t) s=bT hs s:=by
 cases hh:aV hs s
 .rw[aY7 hh,aY7 (by rw[nT,hh];rfl)]
 .obtain⟨h,hm,rfl⟩:=dO.1 hh;rw[sN h2 hm,sN (jG h2 t) (gX.2 ⟨hm,hne⟩)]
theorem Gx.without(g:Gd l)(t:Int):Gx ⟨l.r,aJ l.hs t,aJ l.qs t⟩:=by
 refine⟨Ak (jV _ _) g.hl,Ak (jV _ _) g.ql,mU g.hn t,mU g.qn t,jG g.h2 t,jG g.q2 t,?_,?_⟩
 .rw[xU];intro x hx y hy;exact xU.1 g.fit x (gX.1 hx).1 y (gX.1 hy).1
 .obtain⟨a,b,e,ha,hb⟩:=dP4 g.ord;refine⟨aJ a t,aJ b t,by rw[e];simp[aJ],?_,?_⟩
  .intro x hx;obtain⟨hx,hne⟩:=gX.1 hx;obtain⟨h1,h2,h3⟩:=ha x hx;have em:=bI5 g.h2 hne;refine⟨?_,?_,?_⟩
   .simp only[nT,h1,Et,Ec,Cq];exact hne
   .simp only[em];exact h2
   .simp only[em];exact h3
  .intro x hx;obtain⟨hx,hne⟩:=gX.1 hx;simp only[nT,hb x hx,Bool.false_and]
theorem aT1(hf:eL hs (h::q)=A'):(aV hs h.t=A'\/hs.length<20)/\eR hs h.t h.m=A':=by unfold eL at hf;simp only[Bq,Dy,Cs]at hf;exact hf
theorem cO2(ht:cS (h::q)=F'):∀x∈q,h.t≠x.t:=by rw[gH,Cw]at ht;exact ht.1
theorem Gx.step(g:Gx ⟨r,hs,h::q⟩)(hf:eL hs (h::q)=A'):Gx ⟨r,iZ hs h,q⟩:=by
 obtain⟨hl,ql,hn,qn,h2,q2,fit,ord⟩:=g;simp only at hl ql hn qn h2 q2 fit ord;obtain⟨hr,hfit⟩:=aT1 hf;have hnm:mN h=A':=mO.1 qn h (by simp);have hne:=cO2 q2;refine⟨?_,by simp at ql⊢;omega,lN hn hnm,mO.2 fun x hx=>mO.1 qn x (by simp[hx]),qM h2 h,cO3 q2,bS4 h2 fit hfit,?_⟩
 .simp only;cases hh:aV hs h.t
  .rw[aZ5 hh];rcases hr with hr|hr
   .rw[hh]at hr;cases hr
   .omega
  .rw[aB8 hh];exact hl
 .have same:∀x∈q,aV (iZ hs h) x.t=aV hs x.t/\bT (iZ hs h) x.t=bT hs x.t:=by intro x hx;have hx':=hne x hx;refine⟨?_,aZ6 h2 h (fun e=>hx' e.symm)⟩;rw[tV h2,show(h.t==x.t)=F' by rw[Cq];exact hx',Gg]
  obtain⟨a,b,e,ha,hb⟩:=ord;cases a with
  |nil=>simp only[List.nil_append]at e;refine⟨[],q,rfl,by simp,fun x hx=>?_⟩;simp only[(same x hx).1];exact hb x (by rw[<-e];simp[hx])
  |cons y a=>
   simp only[List.cons_append,List.cons.injEq]at e;obtain⟨rfl,e⟩:=e;refine⟨a,b,e,fun x hx=>?_,fun x hx=>?_⟩
   .have hq:x∈q:=by rw[e];simp[hx]
    obtain⟨c1,c2,c3⟩:=ha x (by simp[hx]);obtain⟨s1,s2⟩:=same x hq;exact⟨by simp only[s1];exact c1,by simp only[s2];exact c2,by simp only[s2];exact c3⟩
   .have hq:x∈q:=by rw[e];simp[hx]
    simp only[(same x hq).1];exact hb x hx
theorem dB3(g:Gx ⟨r,hs,qs⟩):Gd ⟨r,(dI hs qs).1,(dI hs qs).2.1⟩:=by
 induction qs generalizing hs with
 |nil=>exact g.gd rfl
 |cons h q ih=>
  cases hf:eL hs (h::q)
  .rw[wU hf];exact g.gd hf
  .rw[tY hf];exact ih (g.step hf)
theorem dK4(g:Gd l)(t:Int):Gd (fX l t):=dB3 (Gx.without g t)
theorem yT(hs qs:List Hold):∃a,qs=a++(dI hs qs).2.1/\(dI hs qs).2.2=a.map (·.t):=by
 induction qs generalizing hs with
 |nil=>exact⟨[],rfl,rfl⟩
 |cons h q ih=>
  cases hf:eL hs (h::q)
  .rw[wU hf];exact⟨[],rfl,rfl⟩
  .rw[tY hf];obtain⟨a,e1,e2⟩:=ih (iZ hs h);exact⟨h::a,by simp only[List.cons_append];rw[<-e1],by simp only[Ef];rw[e2]⟩
theorem aI4(h2:cS hs=F')(v:Int):aV (dI hs qs).1 v=(aV hs v||(dI hs qs).2.2.contains v):=by
 induction qs generalizing hs with
 |nil=>simp[dI]
 |cons h q ih=>
  cases hf:eL hs (h::q)
  .rw[wU hf];simp
  .rw[tY hf,ih (qM h2 h),tV h2];simp only[List.contains_cons];rw[Bool.or_assoc];congr 1;congr 1;rw[Fe];simp only[Dx];exact⟨fun e=>e.symm,fun e=>e.symm⟩
theorem bC6(l:Lock)(t:Int):∃a,aJ l.qs t=a++(fX l t).qs/\sV l t=a.map (·.t):=yT _ _
theorem dD3(l:Lock)(t:Int):((fX l t).qs).Sublist l.qs:=by obtain⟨a,e,_⟩:=bC6 l t;have h1:(aJ l.qs t).Sublist l.qs:=List.filter_sublist;rw[e]at h1;exact(List.sublist_append_right a _).trans h1
theorem dK5{t v:Int}(q2:cS l.qs=F')(h:v∈sV l t):v≠t/\aV l.qs v=A'/\aV (fX l t).qs v=F':=by
 obtain⟨a,e,eg⟩:=bC6 l t;rw[eg]at h;obtain⟨x,hx,rfl⟩:=Db.1 h;have hx':x∈aJ l.qs t:=by rw[e];simp[hx]
 obtain⟨hm,hne⟩:=gX.1 hx';have hw:=jG q2 t;rw[e,gH,Fq]at hw;refine⟨hne,dO.2 ⟨x,hm,rfl⟩,nD.2 fun y hy ey=>hw.2.2 x hx y hy ey.symm⟩
theorem bW4(g:Gd l)(t:Int):aV (fX l t).hs t=F'/\aV (fX l t).qs t=F':=by
 constructor
 .unfold fX;simp only;rw[aI4 (jG g.h2 t),bV6,Bool.false_or];cases hc:(dI (aJ l.hs t) (aJ l.qs t)).2.2.contains t
  .rfl
  .rw[Eg]at hc;exact absurd rfl (dK5 g.q2 hc).1
 .obtain⟨a,e,_⟩:=bC6 l t;refine nD.2 fun y hy ey=>?_;have:y∈aJ l.qs t:=by rw[e];simp[hy]
  exact(gX.1 this).2 ey
end Ch
theorem cG7(b off:Nat)(ah:Option Addr)(nh ch:Nat)(aq:Option Addr)(nq cq:Nat)(l:Lock)(w:World)(h:LkOne w b off ah nh ch aq nq cq l)(hn:nh<=1048576)(hq:nq<=1048576):
  Calls prog 170 #[.pointer (Y ⟨b,off,O⟩)] w fun e w'=>e=R' (I J (dL l))/\V' w w':=by
 obtain⟨r,hs,qs⟩:=l;have⟨c0,c1,c2,h3,h4,_,_,hch,hcq⟩:=h;simp only at c0 h3 h4⊢;have hbl:=aD c0;have HQ:=h4.hlen;have HL:=h3.hlen;by_cases hmh:20<nh
 .have HR:=hid (wN (l:=⟨r,hs,qs⟩) (.inl (by have:=HL.out;show 20<hs.length;omega)));go_enter func170,ntmps170
  go_wp2;go_ret;exact⟨cH HR.out.symm,Aa _ _⟩
 by_cases hmq:20<nq
 .have HR:=hid (wN (l:=⟨r,hs,qs⟩) (.inr (by have:=HQ.out;show 20<qs.length;omega)));have d1:decide ((20:Int)<(nh:Int))=F':=by simp;omega
  go_enter func170,ntmps170
  go_wp2;go_ret;exact⟨cH HR.out.symm,Aa _ _⟩
 have d1:decide ((20:Int)<(nh:Int))=F':=by simp;omega
 have d2:decide ((20:Int)<(nq:Int))=F':=by simp;omega
 have H1:Hid (¬(20<hs.length\/20<qs.length)):=by have:=HL.out;have:=HQ.out;show ¬_;omega
 clear hmh hmq;cases hg:bO hs
 .have HR:=hid (wO (l:=⟨r,hs,qs⟩) H1.out (by show(bO hs&&bO qs)=F';rw[hg];rfl));have IN:=fun W hW=>rF ah nh ch hs W hW hn;rw[uG hg]at IN;go_enter func170,ntmps170
  go_wp2_with fail
  refine(IN _ h3).mono ?_;rintro e w1⟨rfl,hww1⟩;obtain rfl:=hww1.symm;go_wp2;go_ret;exact⟨cH HR.out.symm,Aa _ _⟩
 have HG:=hid hg;have IN:=fun W hW=>rF ah nh ch hs W hW hn;rw[xI hg]at IN;cases hG:bO qs
 .have HR:=hid (wO (l:=⟨r,hs,qs⟩) H1.out (by show(bO hs&&bO qs)=F';rw[hg,hG];rfl));have IM:=fun W hW=>rF aq nq cq qs W hW hq;rw[uG hG]at IM;clear hg hG;go_enter func170,ntmps170
  go_wp2_with fail
  refine(IN _ h3).mono ?_;rintro e w1⟨rfl,hww1⟩;obtain rfl:=hww1.symm;go_wp2_with fail
  refine(IM _ h4).mono ?_;rintro e w1⟨rfl,hww1⟩;obtain rfl:=hww1.symm;go_wp2;go_ret;exact⟨cH HR.out.symm,Aa _ _⟩
 have HG2:=hid hG;have H2:Hid ((bO hs&&bO qs)=A'):=by show _=_;rw[hg,hG];rfl
 have IM:=fun W hW=>rF aq nq cq qs W hW hq;rw[xI hG]at IM;clear hg hG;have TH:=fun W hW=>aE1 ah nh ch hs W hW hn hch;have TQ:=fun W hW=>aE1 aq nq cq qs W hW hq hcq;cases ht:cS hs;all_goals rw[ht]at TH
 .cases hu:cS qs;all_goals rw[hu]at TQ
  .have H3:Hid ((cS hs||cS qs)=F'):=by show _=_;rw[ht,hu];rfl
   have HF:=hid (fun h4=>aN6 (l:=⟨r,hs,qs⟩) H1.out H2.out H3.out h4);have HO:=hid (fun h4=>bQ2 (l:=⟨r,hs,qs⟩) H1.out H2.out H3.out h4);simp only at HF HO;clear ht hu;go_enter func170,ntmps170
   go_wp2_with fail
   refine(IN _ h3).mono ?_;rintro e w1⟨rfl,hww1⟩;obtain rfl:=hww1.symm;go_wp2_with fail
   refine(IM _ h4).mono ?_;rintro e w2⟨rfl,hww2⟩;obtain rfl:=hww2.symm;go_wp2_with fail
   refine(TH _ h3).mono ?_;rintro e w3⟨rfl,b3⟩;have c1:=keep_cell b3 c1;have c2:=keep_cell b3 c2;have hbl:=aD c1;go_wp2_with fail
   refine(TQ _ (h4.below b3)).mono ?_;rintro e w4⟨rfl,b4⟩;have c1:=keep_cell b4 c1;have c2:=keep_cell b4 c2;have hbl:=aD c1;have b4':=b3.trans (b4.mono b3.size);go_wp2;go_loopw [5] (fun i wr=>∃k:Nat,k<=nh/\i=I J k/\Hid ((hs.take k).all (fun h=>eR hs h.t h.m)=A')/\V' w wr) (fun i _=>nh-(intOf i).toNat)
   case atStart=>exact⟨0,Ad _,rfl,rfl,b4'⟩
   case round=>
    obtain⟨k,hk,rfl,HH,hB⟩:=hrel;clear c1 c2 b3 b4 b4';have c1w:=keep_cell hB h.2.1;have c2w:=keep_cell hB h.2.2.1;have hblw:=aD c1w;by_cases hlt:k<nh
    .have hkl:k<hs.length:=by have:=HL.out;omega
     have HS:=hid (fun he=>uD (p:=fun(h:Hold)=>eR hs h.t h.m) Hold.zero hkl he);have HN:=hid (fun he=>wV (p:=fun(h:Hold)=>eR hs h.t h.m) Hold.zero hkl HH.out he);have HM:=hid (jX (jT HG.out hkl)).1;clear c2w HO;obtain⟨hb,ho,rfl,q0,q1⟩:=(h3.below hB).hold hlt;have hhb:=aD q0;generalize hs.getD k Hold.zero=q at*;obtain⟨rt,rm⟩:=q;simp only at q0 q1 HS HN HM;cases hf:eR hs rt rm
     .go_wp2_with fail
      refine R0 (fun W'=>W'.cell? ⟨b,off+1,O⟩=Y (Z (Y ⟨hb,ho,O⟩) nh ch)/\W'.cell? ⟨hb,ho+k*2,O⟩=Y (I J rt)/\W'.cell? ⟨hb,ho+k*2+1,O⟩=Y (I J rm)/\CellsAt W' (Y ⟨hb,ho,O⟩) (nh*2) (hcells hs)/\V' w W') (⟨c1w,q0,q1,h3.below hB.drew,hB.drew⟩) (fun hH=>?_);refine R5 0 1 2 3 4 ?_;refine R5 5 6 7 8 9 ?_;refine R5 10 11 12 13 14 ?_;refine R5 15 16 17 18 19 ?_;refine R6 20 (fun K hK=>?_);go_simp;refine(jD (Y ⟨hb,ho,O⟩) nh ch rt rm hs _ hH.2.2.2.1 hn HG.out HM.out).mono ?_;rintro e w2⟨rfl,rfl⟩;rw[hf];go_wp2_with fail
      refine hK.out _ _ ?_ (fun hH=>?_)
      .exact hH
      clear hK K;refine R1 21 ?_;refine R7 ?_;go_wp2;go_ret;exact⟨cH (HF.out (by rw[show iX hs=F' from HS.out hf];simp)).symm,hH.2.2.2.2⟩
     .go_wp2_with fail
      refine R0 (fun W'=>W'.cell? ⟨b,off+1,O⟩=Y (Z (Y ⟨hb,ho,O⟩) nh ch)/\W'.cell? ⟨hb,ho+k*2,O⟩=Y (I J rt)/\W'.cell? ⟨hb,ho+k*2+1,O⟩=Y (I J rm)/\CellsAt W' (Y ⟨hb,ho,O⟩) (nh*2) (hcells hs)/\V' w W') (⟨c1w,q0,q1,h3.below hB.drew,hB.drew⟩) (fun hH=>?_);refine R5 0 1 2 3 4 ?_;refine R5 5 6 7 8 9 ?_;refine R5 10 11 12 13 14 ?_;refine R5 15 16 17 18 19 ?_;refine R6 20 (fun K hK=>?_);go_simp;refine(jD (Y ⟨hb,ho,O⟩) nh ch rt rm hs _ hH.2.2.2.1 hn HG.out HM.out).mono ?_;rintro e w2⟨rfl,rfl⟩;rw[hf];go_wp2_with fail
      refine hK.out _ _ ?_ (fun hH=>?_)
      .exact hH
      clear hK K;refine R1 21 ?_;refine R7 ?_;go_wp2;go_roundw;case rel=>exact⟨k+1,by omega,by go_num,HN.out hf,hH.2.2.2.2⟩
      case measure=>simp[intOf];omega
    .obtain rfl:k=nh:=by omega
     have HAF:Hid (iX hs=A'):=by have h1:=HH.out;have h2:=HL.out;rw[h2,Be]at h1;exact h1
     by_cases hz:k+nq=0
     .have hzz:((k:Int)+(nq:Int)==0)=A':=by simp;omega
      have HZ:=hid (HF.out (by rw[<-HL.out,<-HQ.out,hz];rfl));have hwr:IntKind.i64.wrap ((k:Int)+(nq:Int))=0:=by rw[show(k:Int)+(nq:Int)=0 by omega];rfl
      go_wp2_with fail
      refine R0 (fun W'=>LkOne W' b off ah k ch aq nq cq ⟨r,hs,qs⟩/\W'.cell? ⟨b,off+1,O⟩=Y (Z ah k ch)/\W'.cell? ⟨b,off+2,O⟩=Y (Z aq nq cq)/\V' w W') (⟨(h.below hB).below ((Aa _ _).drew),c1w,c2w,hB.drew⟩) (fun hH=>?_);refine R5 0 1 2 3 4 ?_;refine R5 5 6 7 8 9 ?_;refine R8 10 (h:=R8 11 (h:=R8 12 (h:=R9 13 (h:=R9 14 (h:=J3 ?_)))));refine R9 15 (h:=R8 16 (h:=R8 17 (h:=R9 18 (h:=R9 19 (h:=J3 ?_)))));refine R1 20 ?_;refine R7 ?_;go_wp2;go_ret;exact⟨cH HZ.out.symm,hH.2.2.2⟩
     .have hz0:¬((k:Int)+(nq:Int)=0):=by omega
      have hzz:((k:Int)+(nq:Int)==0)=F':=by simp;omega
      have HZ:Hid ((hs.length+qs.length==0)=F'):=by have h1:=HL.out;have h2:=HQ.out;rw[<-h1,<-h2];show _=_;simp;omega
      have hwr:IntKind.i64.wrap ((k:Int)+(nq:Int))=(k:Int)+(nq:Int):=Br _ ⟨by omega,by omega⟩;cases hqo:Ch.qOk hs qs
      .have HR:=hid (HF.out (by rw[hqo];simp));go_wp2_with fail
       refine R0 (fun W'=>LkOne W' b off ah k ch aq nq cq ⟨r,hs,qs⟩/\W'.cell? ⟨b,off+1,O⟩=Y (Z ah k ch)/\W'.cell? ⟨b,off+2,O⟩=Y (Z aq nq cq)/\V' w W') (⟨(h.below hB).below ((Aa _ _).drew),c1w,c2w,hB.drew⟩) (fun hH=>?_);refine R5 0 1 2 3 4 ?_;refine R5 5 6 7 8 9 ?_;refine R4 10 11 12 13 ?_;refine R6 14 (fun K hK=>?_);go_simp;refine(vA b off ah k ch aq nq cq ⟨r,hs,qs⟩ _ hH.1 hn hq HG.out HG2.out).mono ?_;rintro e w2⟨rfl,b2⟩;rw[hqo];go_wp2_with fail
       refine hK.out _ _ ?_ (fun hH=>?_)
       .exact⟨hH.1.below b2,keep_cell b2 hH.2.1,keep_cell b2 hH.2.2.1,hH.2.2.2.trans (b2.mono hH.2.2.2.size)⟩
       clear hK K;refine R8 15 (h:=R8 16 (h:=R8 17 (h:=R9 18 (h:=R9 19 (h:=J3 ?_)))));refine R1 20 ?_;refine R7 ?_;go_wp2;go_ret;exact⟨cH HR.out.symm,hH.2.2.2⟩
      .cases hhf:eL hs qs
       .have HR:=hid (HO.out (by rw[hqo,hhf,HZ.out,HAF.out];rfl));go_wp2_with fail
        refine R0 (fun W'=>LkOne W' b off ah k ch aq nq cq ⟨r,hs,qs⟩/\W'.cell? ⟨b,off+1,O⟩=Y (Z ah k ch)/\W'.cell? ⟨b,off+2,O⟩=Y (Z aq nq cq)/\V' w W') (⟨(h.below hB).below ((Aa _ _).drew),c1w,c2w,hB.drew⟩) (fun hH=>?_);refine R5 0 1 2 3 4 ?_;refine R5 5 6 7 8 9 ?_;refine R4 10 11 12 13 ?_;refine R6 14 (fun K hK=>?_);go_simp;refine(vA b off ah k ch aq nq cq ⟨r,hs,qs⟩ _ hH.1 hn hq HG.out HG2.out).mono ?_;rintro e w2⟨rfl,b2⟩;rw[hqo];go_wp2_with fail
        refine hK.out _ _ ?_ (fun hH=>?_)
        .exact⟨hH.1.below b2,keep_cell b2 hH.2.1,keep_cell b2 hH.2.2.1,hH.2.2.2.trans (b2.mono hH.2.2.2.size)⟩
        clear hK K;refine R4 15 16 17 18 ?_;refine R6 19 (fun K hK=>?_);go_simp;refine(yG b off ah k ch aq nq cq ⟨r,hs,qs⟩ _ hH.1 hn hq HG.out HG2.out).mono ?_;rintro e w2⟨rfl,b2⟩;rw[hhf];go_wp2_with fail
        refine hK.out _ _ ?_ (fun hH=>?_)
        .exact⟨hH.1.below b2,keep_cell b2 hH.2.1,keep_cell b2 hH.2.2.1,hH.2.2.2.trans (b2.mono hH.2.2.2.size)⟩
        clear hK K;refine R1 20 ?_;refine R7 ?_;go_wp2;go_ret;exact⟨cH HR.out.symm,hH.2.2.2⟩
       .have HR:=hid (HF.out (by rw[hhf];simp));go_wp2_with fail
        refine R0 (fun W'=>LkOne W' b off ah k ch aq nq cq ⟨r,hs,qs⟩/\W'.cell? ⟨b,off+1,O⟩=Y (Z ah k ch)/\W'.cell? ⟨b,off+2,O⟩=Y (Z aq nq cq)/\V' w W') (⟨(h.below hB).below ((Aa _ _).drew),c1w,c2w,hB.drew⟩) (fun hH=>?_);refine R5 0 1 2 3 4 ?_;refine R5 5 6 7 8 9 ?_;refine R4 10 11 12 13 ?_;refine R6 14 (fun K hK=>?_);go_simp;refine(vA b off ah k ch aq nq cq ⟨r,hs,qs⟩ _ hH.1 hn hq HG.out HG2.out).mono ?_;rintro e w2⟨rfl,b2⟩;rw[hqo];go_wp2_with fail
        refine hK.out _ _ ?_ (fun hH=>?_)
        .exact⟨hH.1.below b2,keep_cell b2 hH.2.1,keep_cell b2 hH.2.2.1,hH.2.2.2.trans (b2.mono hH.2.2.2.size)⟩
        clear hK K;refine R4 15 16 17 18 ?_;refine R6 19 (fun K hK=>?_);go_simp;refine(yG b off ah k ch aq nq cq ⟨r,hs,qs⟩ _ hH.1 hn hq HG.out HG2.out).mono ?_;rintro e w2⟨rfl,b2⟩;rw[hhf];go_wp2_with fail
        refine hK.out _ _ ?_ (fun hH=>?_)
        .exact⟨hH.1.below b2,keep_cell b2 hH.2.1,keep_cell b2 hH.2.2.1,hH.2.2.2.trans (b2.mono hH.2.2.2.size)⟩
        clear hK K;refine R1 20 ?_;refine R7 ?_;go_wp2;go_ret;exact⟨cH HR.out.symm,hH.2.2.2⟩
  .have HR:=hid (uB (l:=⟨r,hs,qs⟩) H1.out H2.out (by show(cS hs||cS qs)=A';rw[ht,hu];rfl));clear ht hu;go_enter func170,ntmps170
   go_wp2_with fail
   refine(IN _ h3).mono ?_;rintro e w1⟨rfl,hww1⟩;obtain rfl:=hww1.symm;go_wp2_with fail
   refine(IM _ h4).mono ?_;rintro e w2⟨rfl,hww2⟩;obtain rfl:=hww2.symm;go_wp2_with fail
   refine(TH _ h3).mono ?_;rintro e w3⟨rfl,b3⟩;have c2:=keep_cell b3 c2;have hbl:=aD c2;go_wp2_with fail
   refine(TQ _ (h4.below b3)).mono ?_;rintro e w4⟨rfl,b4⟩;go_wp2;go_ret;exact⟨cH HR.out.symm,b3.trans (b4.mono b3.size)⟩
 .have HR:=hid (uB (l:=⟨r,hs,qs⟩) H1.out H2.out (by show(cS hs||cS qs)=A';rw[ht];rfl));clear ht;go_enter func170,ntmps170
  go_wp2_with fail
  refine(IN _ h3).mono ?_;rintro e w1⟨rfl,hww1⟩;obtain rfl:=hww1.symm;go_wp2_with fail
  refine(IM _ h4).mono ?_;rintro e w2⟨rfl,hww2⟩;obtain rfl:=hww2.symm;go_wp2_with fail
  refine(TH _ h3).mono ?_;rintro e w3⟨rfl,b3⟩;go_wp2;go_ret;exact⟨cH HR.out.symm,b3⟩
theorem cW8(v:Int)(w:World):
  Calls prog 169 #[I J v] w fun e w'=>e=R' (X (inB v 0 100))/\w'=w:=by
 go_enter func169,ntmps169
 go_wp2_with(go_at_call 101;refine E' (cU _ _ _ _) ?_)
 go_ret;exact⟨rfl,rfl⟩
end Go.Proofs.YtpbbokalojdooaaGreat
