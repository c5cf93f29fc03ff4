import Derived.Test.YtpbbokalojdooaaGreatQbe
namespace Go.Proofs.YtpbbokalojdooaaGreat
open Go.RowKit Ch Go.Proofs.Tryz
set_option linter.unusedSimpArgs false
set_option linter.unusedVariables false
set_option maxRecDepth 20000
set_option maxHeartbeats 8000000
open Value renaming int->I,slice->Z,bool->X,agg->U
open IntKind renaming i64->J
open Option renaming none->O,some->Y
open Obj renaming cells->M
open Ending renaming returned->R'
open Bool renaming true->A',false->F'
variable {cs:Array Value} {s:EgS} {e:Eng} {key:Int} {ls:List (List Row)} {ps:List Hold} {rs:List Row} {ts:List Tx} {H b k o tb:Nat} {T:Nat->Nat} {us:Nat->Value} {a:Option Addr} {t':Tx} {t:TypeId} {v:Value} {W w:World}
theorem aI8{g:Nat}{u0 u1 u2 u3 u4 u5 u6:Value}(h:W.heap[g]? =Y (M #[u0,u1,u2,u3,u4,u5,u6] t (0,0))):W.cell? ⟨g,0,O⟩=Y u0/\W.cell? ⟨g,1,O⟩=Y u1/\W.cell? ⟨g,2,O⟩=Y u2/\W.cell? ⟨g,3,O⟩=Y u3/\W.cell? ⟨g,4,O⟩=Y u4/\W.cell? ⟨g,5,O⟩=Y u5/\W.cell? ⟨g,6,O⟩=Y u6:=
 ⟨cell_of_row _ _ _ _ _ _ h,cell_of_row _ _ _ _ _ _ h,cell_of_row _ _ _ _ _ _ h,cell_of_row _ _ _ _ _ _ h,cell_of_row _ _ _ _ _ _ h,cell_of_row _ _ _ _ _ _ h,cell_of_row _ _ _ _ _ _ h⟩
theorem yK(zs:List Int):∀u∈bts zs,u.oneCell'=A':=by intro u hu;unfold bts at hu;obtain⟨z,_,rfl⟩:=List.mem_map.1 hu;rfl
theorem dD0{xs ys:List Int}(h:IsB xs)(h':bG8 ys):IsB (xs++ys):=by
 intro i;rcases Nat.lt_or_ge i xs.length with hi|hi
 .have:=h i;simpa[List.getD,List.getElem?_append_left hi]using this
 .have:=aA3 h' (i-xs.length);simpa[List.getD,List.getElem?_append_right hi]using this
def lgD(j:Nat):Nat:=match j with|5=>9|_=>11
def lgE:List Nat:=[5,7]
def lgP(_:Nat):List Nat:=[]
theorem cX4:(lgE.all fun i=>lgE.all fun j=>lgD i !=lgD j||i==j)=A':=by kernel_rfl
theorem dF5:lgE.Nodup:=by decide
def LgR(s:EgS)(r:Rec)(j:Nat)(v:Value)(T:Nat->Nat)(w:World):Prop:=match j with
 |5=>v=Z s.oa s.on s.oc
 |_=>∃gp cp,v=Z (Y ⟨gp,0,O⟩) r.len cp/\OwnT w 0 T 8 5 1 (Z (Y ⟨gp,0,O⟩) r.len cp) r.len (bts r.bytes)
theorem LgR.mono(s:EgS)(r:Rec):∀j v T T' w w',LgR s r j v T w->(∀k,Kp k T T' w w')->w.heap.size<=w'.heap.size->LgR s r j v T' w':=by
 intro j v T T' w w' h hk _;unfold LgR at*;split at h
 .exact h
 .obtain⟨a,c,h1,h2⟩:=h;exact⟨a,c,h1,h2.kept (hk 8)⟩
def LogQ(T:Nat->Nat)(w:World)(b o:Nat)(cs:Array Value)(t:TypeId)(s:EgS)(e:Eng)(r:Ending)(w':World):Prop:=
 r=R' (.tuple #[])/\∃T' cs' a n c lo,EgX w' T' b o cs' t {s with oa:=a,on:=n,oc:=c} {e with lo:=lo}/\n<=s.on+11/\Stp T T' w w' o cs cs'
theorem oY(kd tx ky:Int)(hd:Bool)(ol:Int)(hs:Bool)(nw:Int)(w:World)(T:Nat->Nat)(b o:Nat)(cs:Array Value)(t:TypeId)(s:EgS)(e:Eng)(h:EgX w T b o cs t s e)(fit:Rec.Fit ⟨kd,tx,ky,hd,ol,hs,nw⟩)(hn:s.on+11<=4100000):
  Calls prog 107 #[.pointer (Y ⟨b,o,O⟩),U #[I J kd,I J tx,I J ky,X hd,I J ol,X hs,I J nw]] w (LogQ T w b o cs t s e):=by
 have hlen:=(Rec.len_bd ⟨kd,tx,ky,hd,ol,hs,nw⟩).2;have hbl:=h.lt;go_enter func107,ntmps107
 go_wp2_with fail
 have hb1:=f' w (M #[I J kd,I J tx,I J ky,X hd,I J ol,X hs,I J nw] 79);have HR:(w.alloc (M #[I J kd,I J tx,I J ky,X hd,I J ol,X hs,I J nw] 79)).heap[w.heap.size]? =Y (M #[I J kd,I J tx,I J ky,X hd,I J ol,X hs,I J nw] 79 (0,0)):=aO rfl;have hX1:=h.below hb1 8;have hS1:=Stp.below (T:=T) o cs hb1 8;have hT1:mrk T w.heap.size 8 w.heap.size=8:=by unfold mrk;rw[if_neg (by omega)]
 generalize w.alloc (M #[I J kd,I J tx,I J ky,X hd,I J ol,X hs,I J nw] 79)=W1 at*;refine R0 (fun W'=>W'.cell? ⟨w.heap.size,0,O⟩=Y (I J kd)/\W'.cell? ⟨w.heap.size,1,O⟩=Y (I J tx)/\W'.cell? ⟨w.heap.size,2,O⟩=Y (I J ky)/\W'.cell? ⟨w.heap.size,3,O⟩=Y (X hd)/\W'.cell? ⟨w.heap.size,4,O⟩=Y (I J ol)/\W'.cell? ⟨w.heap.size,5,O⟩=Y (X hs)/\W'.cell? ⟨w.heap.size,6,O⟩=Y (I J nw)) (aI8 HR) (fun hH=>?_);refine R5 0 1 2 3 4 ?_;refine R1 6 ?_;refine rJ (d:=lgD) (E:=lgE) (L1:=#[A',A',A',A',A',A',A',A',F',F',F',F',F']) (fuel1:=5) (pre:=lgP) (R:=LgR s ⟨kd,tx,ky,hd,ol,hs,nw⟩) (Bs:=fun T' W=>EgX W T' b o cs t s e/\Stp T T' w W o cs cs/\W.heap[w.heap.size]? =Y (M #[I J kd,I J tx,I J ky,X hd,I J ol,X hs,I J nw] 79 (0,0))/\T' w.heap.size=8) cX4 dF5 (by kernel_rfl) (by kernel_rfl) (by kernel_rfl) (by kernel_rfl) (by kernel_rfl) (by kernel_rfl) (by kernel_rfl) (LgR.mono s ⟨kd,tx,ky,hd,ol,hs,nw⟩) ?bs ?step ?last (mrk T w.heap.size 8) ?init;case init=>exact⟨⟨hX1.own.kept (fun k _ _=>jN),hX1.box,hX1.cell,hX1.tag⟩,hS1.trans ⟨rfl,rfl,rfl,z',jN,jN,fun _ _=>rfl,rfl⟩,HR,hT1⟩
 case bs=>intro T' W hB;exact aI8 hB.2.2.1
 case step=>
  intro i hi vs T' W hB hp;unfold lgE at hi;simp only[List.mem_cons,List.not_mem_nil,or_false]at hi;rcases hi with rfl|rfl
  .obtain⟨_,_,_,_,_,y5,_,_,_,_⟩:=hB.1.all;refine kD ⟨Y 9,.load 22 (.tmp 8),_,_,_,O⟩ (Z s.oa s.on s.oc) (by rfl) cX4 dF5 (by kernel_rfl) rfl ?_ ?_
   .intro ev h1 h2;have s1:ev (.tmp 8)= .pointer (Y ⟨b,o+5,O⟩):=(h2 8 (by kernel_rfl)).trans rfl;clear h1 h2;go_simp
   .exact⟨_,T',rfl,rfl,fun k=>Kp.refl k T' W,z',hB⟩
  .refine wpOp_step rfl (fun K hK=>?_);refine tF (x:=.tmp 10) rfl rfl ((dY lgD vs 10 lgE _ (by kernel_rfl)).trans rfl) (by go_simp) ?_;refine(pS kd tx ky hd ol hs nw _ fit).mono ?_;rintro r W2⟨gp,cp,rfl,ho,hb⟩;have hk:=fun k=>bJ hb T' 8 k;obtain⟨h4,h5⟩:=aY hB.2.2.1 hB.2.2.2 (hk 8);exact⟨_,rfl,hK _ _ ⟨_,mrk T' W.heap.size 8,rfl,⟨gp,cp,rfl,OwnT.new ho (Nat.zero_le _)⟩,hk,hb.size,hB.1.below hb 8,hB.2.1.trans (Stp.below o cs hb 8),h4,h5⟩⟩
 case last=>
  intro vs T' W hB hR;have e5:vs 5=Z s.oa s.on s.oc:=hR 5 (by simp[lgE]);obtain⟨gp,cp,e7,o7⟩:=hR 7 (by simp[lgE]);clear hR;obtain⟨hX,hS,HR',hT'⟩:=hB;dsimp only[dV,lgE,List.foldl];simp only[Act.put,lgD,List.setIfInBounds_toArray,List.set_cons_zero,List.set_cons_succ];rw[e5,e7];refine R6 8 (fun K hK=>?_);refine lH aA0 (.tmp 9) (.tmp 11) rfl rfl 0 (Z s.oa s.on s.oc) s.on (bts e.lo) (Y ⟨gp,0,O⟩) (Rec.len ⟨kd,tx,ky,hd,ol,hs,nw⟩) cp (bts (Rec.bytes ⟨kd,tx,ky,hd,ol,hs,nw⟩)) rfl rfl hX.own.lo.1 o7.cells (yK _) (by omega) (Nat.zero_le _) ?_;intro a9 c9 W9 o9 gr9 at9;rw[show bts e.lo++bts (Rec.bytes ⟨kd,tx,ky,hd,ol,hs,nw⟩)=bts (e.lo++Rec.bytes ⟨kd,tx,ky,hd,ol,hs,nw⟩)by simp[bts]]at o9;have hO9:=OwnT.grown hX.own.lo o9 at9;have hE9:=hX.own.newLo (fun k _ _ h5=>dS gr9 (fun g hg=>hX.own.lo.2 g hg) h5) hO9 (dD0 hX.own.blo (Rec.all_bytes fit)) (by omega);obtain⟨hb9,ht9⟩:=aY hX.box hX.tag (dS gr9 (fun g hg=>hX.own.lo.2 g hg) (by decide:1≠5));obtain⟨hr9,hr8⟩:=aY HR' hT' (dS gr9 (fun g hg=>hX.own.lo.2 g hg) (by decide:8≠5));have hS9:=hS.trans (Stp.grown o cs gr9 (fun g hg=>hX.own.lo.2 g hg) (by decide) (by decide));have hset:=EgX.set (i:=5) (v:=Z a9 (s.on+Rec.len ⟨kd,tx,ky,hd,ol,hs,nw⟩) c9) hb9 hX.cell ht9 hE9 (by decide) rfl;have y5:=(cell_of_row _ b (o+5) _ _ _ hb9).trans (hX.cell 5 (by decide));have f5:=frozen_of_row _ b (o+5) _ _ hb9;refine hK.out _ _ ?_ (fun hH=>?_)
  .exact aI8 hr9
  clear hK K;refine J3 ?_;refine R3 9 10 11 ?_;refine R6 12 (fun K hK=>?_);go_simp;refine hK.out _ _ ?_ (fun hH=>?_)
  .exact aI8 (aY hr9 hr8 (pR ht9 (by decide:8≠1))).1
  clear hK K;refine R7 ?_;go_wp2;exact bodyPost_end (results_none rfl _ _ _) rfl ⟨rfl,mrk T' W.heap.size 5,_,a9,s.on+Rec.len ⟨kd,tx,ky,hd,ol,hs,nw⟩,c9,e.lo++Rec.bytes ⟨kd,tx,ky,hd,ol,hs,nw⟩,hset.1,by omega,hS9.trans hset.2⟩
theorem iC(ts:List Tx)(k i:Nat)(t:Tx)(hk:k<ts.length):aQ (ts.set k t) i=if k=i then t else aQ ts i:=by
 unfold aQ;by_cases h:k=i
 .subst h;simp[List.getD,hk]
 .simp[List.getD,h]
theorem TxO.set{n c:Nat}{j:Nat}{x':Value}(h:TxO w H T (Z (Y ⟨tb,0,O⟩) n c) n ts us)(hk:k<n)(hj:j<8)
  (hv:∀i,i<8->tx8 t' x' i=if i=j then v else tx8 (aQ ts k) (us k) i) (hx:OwnT w H T (2*k+10) 263 3 x' t'.un.length (bfcells t'.un)) (hf:t'.un.length<=1048576):
  TxO (w.setCell ⟨tb,k*8+j,O⟩ v) H T (Z (Y ⟨tb,0,O⟩) n c) n (ts.set k t') (fun i=>if i=k then x' else us i):=by
 obtain⟨hl,⟨cs,hr,hc⟩,hn,hfew⟩:=h;have hT:T tb=2:=hr.2 tb rfl;have hk':∀m,m≠2->Kp m T T w (w.setCell ⟨tb,k*8+j,O⟩ v):=fun m hm=>pR hT hm;have hst:=hr.1.stored (k*8+j) v;have hcl:cs.length=n*8:=hr.1.1;refine⟨by simpa using hl,⟨cs.set (k*8+j) v,⟨hst.1,hr.2⟩,fun i i' hi hi'=>?_⟩,fun i hi=>?_,fun i=>?_⟩
 .rw[iC ts k i t' (by omega)];by_cases hik:k=i
  .subst hik;simp only[if_true];rw[hv i' hi'];by_cases hjj:i'=j
   .subst hjj;rw[if_pos rfl,List.getElem?_set_self (by omega)]
   .rw[if_neg hjj,List.getElem?_set_ne (by omega)];exact hc k i' hi hi'
  .rw[if_neg hik];simp only[if_neg (fun e=>hik (Eq.symm e))];rw[List.getElem?_set_ne (by omega)];exact hc i i' hi hi'
 .rw[iC ts k i t' (by omega)];by_cases hik:k=i
  .subst hik;simp only[if_true];exact hx.kept (hk' _ (by omega))
  .rw[if_neg hik];simp only[if_neg (fun e=>hik (Eq.symm e))];exact(hn i hi).kept (hk' _ (by omega))
 .rw[iC ts k i t' (by omega)];split
  .exact hf
  .exact hfew i
theorem TxO.place{n c:Nat}(h:TxO w H T (Z a n c) n ts us)(hn:0<n):∃tb,a=Y ⟨tb,0,O⟩:=by
 obtain⟨hl,⟨cs,hr,hc⟩,_,_⟩:=h;rcases hr.1.2 with⟨_,h0⟩|⟨g,cap,cur,hv,_⟩
 .omega
 .simp only[Value.slice.injEq]at hv;exact⟨g,hv.1⟩
theorem EgX.setTx{j:Nat}(h:EgX w T b o cs t s e)(ha:s.ta=Y ⟨tb,0,O⟩)(hk:k<s.tn)(hj:j<8)
  (hv:∀x i,i<8->tx8 t' x i=if i=j then v else tx8 (aQ e.tx k) x i) (hun:t'.un=(aQ e.tx k).un):
  EgX (w.setCell ⟨tb,k*8+j,O⟩ v) T b o cs t s {e with tx:=e.tx.set k t'}/\Stp T T w (w.setCell ⟨tb,k*8+j,O⟩ v) o cs cs:=by
 obtain⟨us,hT⟩:=h.own.tx;rw[ha]at hT;have hT2:T tb=2:=by obtain⟨_,⟨_,hr,_⟩,_,_⟩:=hT;exact hr.2 tb rfl
 have hk':∀m,m≠2->Kp m T T w (w.setCell ⟨tb,k*8+j,O⟩ v):=fun m hm=>pR hT2 hm;have hu:=hT.un k hk;have hN:=hT.set (t':=t') (x':=us k) hk hj (fun i hi=>hv (us k) i hi) (by rw[hun];exact hu) (by rw[hun];exact hT.few k);obtain⟨h4,h5⟩:=aY h.box h.tag (hk' 1 (by omega));refine⟨⟨?_,h4,h.cell,h5⟩,⟨rfl,rfl,rfl,by simp,hk' 0 (by omega),hk' 8 (by omega),fun _ _=>rfl,rfl⟩⟩;have:=h.own.newTx (a:=s.ta) (n:=s.tn) (c:=s.tc) (fun m _ _ h2 _=>hk' m h2) (by rw[ha];exact hN) h.own.n4;exact this
theorem EgX.noUndo(h:EgX w T b o cs t s e)(ha:s.ta=Y ⟨tb,0,O⟩)(hk:k<s.tn):
  EgX (w.setCell ⟨tb,k*8+3,O⟩ (Z O 0 0)) T b o cs t s {e with tx:=e.tx.set k {aQ e.tx k with un:=[]}}/\Stp T T w (w.setCell ⟨tb,k*8+3,O⟩ (Z O 0 0)) o cs cs:=by
 obtain⟨us,hT⟩:=h.own.tx;rw[ha]at hT;have hT2:T tb=2:=by obtain⟨_,⟨_,hr,_⟩,_,_⟩:=hT;exact hr.2 tb rfl
 have hk':∀m,m≠2->Kp m T T w (w.setCell ⟨tb,k*8+3,O⟩ (Z O 0 0)):=fun m hm=>pR hT2 hm;have hN:=hT.set (j:=3) (t':={aQ e.tx k with un:=[]}) (x':=Z O 0 0) (v:=Z O 0 0) hk (by decide) (fun i hi=>by
  match i,hi with
  |0,_=>rfl
  |1,_=>rfl
  |2,_=>rfl
  |3,_=>rfl
  |4,_=>rfl
  |5,_=>rfl
  |6,_=>rfl
  |7,_=>rfl) ⟨World.ownsRow_nil _ _ _ _,fun g hg=>by simp[Value.ownBlock]at hg⟩ (by simp)
 obtain⟨h4,h5⟩:=aY h.box h.tag (hk' 1 (by omega));refine⟨⟨?_,h4,h.cell,h5⟩,⟨rfl,rfl,rfl,by simp,hk' 0 (by omega),hk' 8 (by omega),fun _ _=>rfl,rfl⟩⟩;have:=h.own.newTx (a:=s.ta) (n:=s.tn) (c:=s.tc) (fun m _ _ h2 _=>hk' m h2) (by rw[ha];exact hN) h.own.n4;exact this
def mN(ps:List Hold)(key:Int):List Hold:=ps.filter fun p=>p.m !=key
theorem bN1(h:k<ps.length)(hc:((ps.getD k Hold.zero).m !=key)=A'):mN (ps.take (k+1)) key=mN (ps.take k) key++[ps.getD k Hold.zero]:=by unfold mN;rw[bT ps Hold.zero k h,List.filter_append];generalize ps.getD k Hold.zero=x at*;rw[List.filter_cons_of_pos (p:=fun p:Hold=>p.m !=key) hc];rfl
theorem cA5(h:k<ps.length)(hc:((ps.getD k Hold.zero).m !=key)=F'):mN (ps.take (k+1)) key=mN (ps.take k) key:=by unfold mN;rw[bT ps Hold.zero k h,List.filter_append];generalize ps.getD k Hold.zero=x at*;rw[List.filter_cons_of_neg (p:=fun p:Hold=>p.m !=key) (by rw[hc];simp)];simp
theorem bR0{nk nv:Int}:aX8 ps key ⟨nk,F',nv⟩=mN ps key:=rfl
theorem bE3{nk nv:Int}:aX8 ps key ⟨nk,A',nv⟩=aA2 (mN ps key) ⟨nv,key⟩:=by
 rw[aM0]
 .rfl
 .intro hm;have:=(List.mem_filter.1 hm).2;simp at this
theorem bZ4(a:Option Addr)(n cap:Nat)(key nk:Int)(nh:Bool)(nv:Int)(ps:List Hold)(w:World)(h:CellsAt w a (n*2) (hcells ps))(hn:n<=1048575):
  Calls prog 221 #[Z a n cap,I J key,U #[I J nk,X nh,I J nv]] w fun e w'=>∃g' m c',e=R' (Z (Y ⟨g',0,O⟩) m c')/\m<=n+1/\w'.ownsRow w.heap.size 265 2 (Z (Y ⟨g',0,O⟩) m c') m (hcells (aX8 ps key ⟨nk,nh,nv⟩))/\Below w.heap.size w w':=by
 have HL:=h.hlen;obtain⟨i0,hi0,hz0,hz1,hz2⟩:=info_parts Tryz.info265;have oE:=lW (w.alloc (M #[I J nk,X nh,I J nv] 263)) (w.heap.size+1) 265 2 (by simp);rw[show(w.alloc (M #[I J nk,X nh,I J nv] 263)).heap.size=w.heap.size+1 by simp]at oE;have kE:Below w.heap.size w ((w.alloc (M #[I J nk,X nh,I J nv] 263)).alloc (M #[] 265)):=(q').alloc (by simp) _;have hN:((w.alloc (M #[I J nk,X nh,I J nv] 263)).alloc (M #[] 265)).heap[w.heap.size]? =Y (M #[I J nk,X nh,I J nv] 263 (0,0)):=aR (q') (heap_alloc_new w _);go_enter func221,ntmps221
 go_wp2;go_loopw [7,8] (fun q i wr=>∃(k m:Nat) (a':Option Addr) (c':Nat),k<=n/\m<=k/\i=I J k/\q=Z a' m c'/\(∃g,a'=Y ⟨g,0,O⟩)/\wr.ownsRow (w.heap.size+1) 265 2 (Z a' m c') m (hcells (mN (ps.take k) key))/\wr.heap[w.heap.size]? =Y (M #[I J nk,X nh,I J nv] 263 (0,0))/\w.heap.size+1<=wr.heap.size/\Below w.heap.size w wr) (fun _ i _=>n-(intOf i).toNat)
 case atStart=>exact⟨0,0,_,_,Nat.zero_le _,z',rfl,rfl,⟨_,rfl⟩,oE,hN,by simp,kE⟩
 case round=>
  clear oE kE hN;obtain⟨k,m,a',c',hk,hmk,rfl,rfl,hsm,own,hN,hsz,hB⟩:=hrel;by_cases hlt:k<n
  .have hkl:k<ps.length:=by have:=HL.out;omega
   have HY:=hid (fun he=>bN1 (key:=key) hkl he);have HN:=hid (fun he=>cA5 (key:=key) hkl he);obtain⟨b,off,rfl,q0,q1⟩:=(h.below hB).hold hlt;have hbl:=aD q0;generalize ps.getD k Hold.zero=r at*;obtain⟨rt,rm⟩:=r;simp only at q0 q1 HY HN;generalize mN (ps.take k) key=zs at*;have hsum:m+1<=4194304:=by omega
   by_cases hh:rm=key
   .have e1:(rm !=key)=F':=by simpa using hh
    replace HN:=hid (HN.out e1);clear HY hh;go_wp2;go_roundw;case rel=>exact⟨k+1,m,a',c',by omega,by omega,by go_num,rfl,hsm,by rw[HN.out];exact own,hN,hsz,hB⟩
    case measure=>simp[intOf];omega
   .have e1:(rm !=key)=A':=by simpa using hh
    replace HY:=hid (HY.out e1);clear HN hh;have kQ:=f' wr (M #[I J rt,I J rm] 265);have own3:=aF own kQ;have hN3:=aR kQ hN;have hC3:=fT wr rt rm 265;have hb3:w.heap.size+1<=(wr.alloc (M #[I J rt,I J rm] 265)).heap.size:=by simp;omega
    have b3:=hB.trans (kQ.mono hB.size);go_wp2_with(at_builtin;go_must (refine bK underlying66 underlying66 hi0 hz0 hz1 hz2 rfl (by omega) (by omega) (.tmp 23) (.tmp 28) ?_ ?_ (w.heap.size+1) (Z a' m c') m (hcells zs) _ 1 1 (hcells [⟨rt,rm⟩]) ?_ ?_ own3 hC3 (cF _) hsum hb3 ?_;exact rfl;exact rfl;exact rfl;exact rfl;intro a5 c5 w5 own5 gr5 at5;go_frame))
    go_roundw;case rel=>have hs5:=cA8 own5 (by omega);rw[<-bZ,<-HY.out]at own5;exact⟨k+1,m+1,a5,c5,by omega,by omega,by go_num,rfl,hs5,own5,lQ gr5 hN3 (vU own3 (by omega)),Nat.le_trans hb3 gr5.size,b3.grown gr5 b3.size (fun g hg=>by have:=(aG own3 g hg).1;omega)⟩
    case measure=>simp[intOf];omega
  .obtain rfl:k=n:=by omega
   have HWF:Hid (ps.take k=ps):=by have:=HL.out;show _=_;rw[this];exact List.take_length
   rw[HWF.out]at own;obtain⟨g,rfl⟩:=hsm;obtain⟨u0,u1,u2⟩:=dI8 hN;have lu:=aD u0;cases nh
   .go_wp2;go_ret;exact⟨g,m,c',rfl,by omega,by rw[bR0];exact aP own (by omega),hB⟩
   .go_wp2_with fail
    refine(aW2 (w.heap.size+1) g m c' (mN ps key) nv key _ own (by omega) hsz).mono ?_;rintro e w9⟨g9,n9,c9,rfl,own9,hn9,b9⟩;go_wp2;go_ret;exact⟨g9,n9,c9,rfl,by omega,by rw[bE3];exact aP own9 (by omega),hB.trans (b9.mono hB.size)⟩
theorem aN4(hg:aL ls=0):(cC ls.flatten).length<=240:=Nat.le_trans (pU _) (aK7 hg)
theorem aN3:(rs.map kP).length=rs.length:=by simp
theorem cP4(h:k<rs.length):(rs.map kP).getD k Hold.zero=kP (rs.getD k Row.zero):=by simp[List.getD,h]
theorem aM5(a:Option Addr)(n cap:Nat)(ls:List (List Row))(w:World)(h:LvAt w a n ls)(hs:aW ls<=1048576)(hg:aL ls=0):
  Calls prog 178 #[Z a n cap] w fun e w'=>∃g' m c',e=R' (Z (Y ⟨g',0,O⟩) m c')/\m<=240/\w'.ownsRow w.heap.size 265 2 (Z (Y ⟨g',0,O⟩) m c') m (hcells (qQ ls))/\Below w.heap.size w w':=by
 have hgl:∀k,k<n->(ls.getD k []).length≠0:=fun k hk=>(fR hg k (by have:=h.len.out;omega)).1;obtain⟨m1,hml1⟩:∃m,Hid (ls.flatten.length=m):=⟨_,rfl⟩
 have SR:=fun W hW=>aP1 a n cap ls W hW hs hgl m1 hml1;have HND:=hid (aX0 hg);have HIX:Hid (qQ ls=eM ((cC ls.flatten).map kP)):=rfl;have hF:=hid (aK7 hg);have hG:=hid (aN4 hg);have oE:=lW w w.heap.size 265 2 z';have kE:=f' w (M #[] 265);generalize qQ ls=ix at*;generalize ls.flatten=F at*;clear hg;go_enter func178,ntmps178
 go_wp2_with fail
 refine(SR _ (h.below kE)).mono ?_;rintro e w1⟨a1,c1,rfl,o1,b1⟩;have o0:=aF oE b1;have B1:=kE.trans (b1.mono (by simp));have hm1:m1<=240:=by have:=(aJ o1).rlen.out;have:=hF.out;omega
 go_wp2_with fail
 refine(aW0 a1 m1 c1 F _ (aJ o1) hm1).mono ?_;rintro e w2⟨a2,m2,c2,rfl,hm2,o2,b2⟩;have o0:=aF o0 b2;have B2:=B1.trans (b2.mono B1.size);have HL:=(aJ o2).rlen;generalize cC F=rs at*;clear o1 b1 b2 oE kE SR;go_wp2;go_loopw [3,5] (fun q i wr=>∃(k m g c':Nat),k<=m2/\m<=k/\i=I J k/\q=Z (Y ⟨g,0,O⟩) m c'/\wr.ownsRow w.heap.size 265 2 (Z (Y ⟨g,0,O⟩) m c') m (hcells (eM ((rs.map kP).take k)))/\Below w2.heap.size w2 wr/\Below w.heap.size w wr) (fun _ i _=>m2-(intOf i).toNat)
 case atStart=>exact⟨0,0,_,_,Nat.zero_le _,z',rfl,rfl,o0,u',B2⟩
 case round=>
  clear o0 B2;obtain⟨k,m,g,c',hk,hmk,rfl,rfl,own,hB2,hB⟩:=hrel;by_cases hlt:k<m2
  .have hkl:k<rs.length:=by have:=HL.out;omega
   have HN:=hid (bG5 HND.out (k:=k) (by rw[aN3];exact hkl));rw[cP4 hkl]at HN;obtain⟨b,off,rfl,q0,q1,q2⟩:=(aJ (aF o2 hB2)).row hlt;have hbl:=aD q0;generalize rs.getD k Row.zero=r at*;obtain⟨rk,rv,rg⟩:=r;simp only[kP]at q0 q1 q2 HN;generalize eM ((rs.map kP).take k)=E at*;have hml:m<=1048576:=by have:=hG.out;have:=HL.out;omega
   have IP:=fun W (o:W.ownsRow w.heap.size 265 2 (Z (Y ⟨g,0,O⟩) m c') m (hcells E)) hz=>aW2 w.heap.size g m c' E rv rk W o hml hz;go_wp2_with fail
   refine R0 (fun W'=>W'.cell? ⟨b,off+k*3,O⟩=Y (I J rk)/\W'.cell? ⟨b,off+k*3+1,O⟩=Y (I J rv)/\W'.ownsRow (w.heap.size) 265 2 (Z (Y ⟨g,0,O⟩) m c') m (hcells E)/\Below w2.heap.size w2 W'/\Below w.heap.size w W') (⟨q0,q1,own,hB2.drew,hB.drew⟩) (fun hH=>?_);refine R5 0 1 2 3 4 ?_;refine R5 5 6 7 8 9 ?_;refine R2 10 11 ?_;refine R6 12 (fun K hK=>?_);go_simp;refine(IP _ hH.2.2.1 hH.2.2.2.2.size).mono ?_;rintro e w9⟨g9,n9,c9,rfl,own9,hn9,b9⟩;refine hK.out _ _ ?_ (fun hH=>?_)
   .exact⟨aC b9 hH.1,aC b9 hH.2.1,aF hH.2.2.1 b9,hH.2.2.2.1.trans (b9.mono hH.2.2.2.1.size),hH.2.2.2.2.trans (b9.mono hH.2.2.2.2.size)⟩
   clear hK K;refine R1 13 ?_;refine R7 ?_;have hB2':=hH.2.2.2.1;have hB':=hH.2.2.2.2;clear hH own hB hB2 q0 q1 q2 IP b9;go_wp2;go_roundw;case rel=>exact⟨k+1,n9,g9,c9,by omega,by omega,by go_num,rfl,by rw[<-HN.out];exact own9,hB2',hB'⟩
   case measure=>simp[intOf];omega
  .obtain rfl:k=m2:=by omega
   have HWF:Hid ((rs.map kP).take k=rs.map kP):=by have:=HL.out;show _=_;rw[this,<-aN3];exact List.take_length
   rw[HWF.out,<-HIX.out]at own;have hk2:k<=240:=by have:=HL.out;have:=hG.out;omega
   go_wp2;go_ret;exact⟨g,m,c',rfl,by omega,own,hB⟩
theorem dG4(w:World)(B:Nat)(e:TypeId)(size:Nat)(hB:B<=w.heap.size):(w.alloc (M #[] e)).ownsRow B e size (Z (Y ⟨w.heap.size,0,O⟩) 0 0) 0 []:=
 World.ownsRow_lit w #[] 0 hB (by unfold maxLen;omega) (by simp)
theorem dB9(c j c' j':Int)(w:World):(binOp .eql 274 (U #[I J c,I J j]) (U #[I J c',I J j'])).run prog w= .ok (X (iP ⟨c,j⟩ ⟨c',j'⟩)) w:=by
 have hS:prog.underlying 274=Y (.struct (prog.fieldsOf 274)):=by kernel_rfl
 have hp:prog.stoodInHeld 274=F':=by kernel_rfl
 have u2:=underlying2;have a2:=isAgg2;have z2:=sizeOf2;rw[run_eql_struct,show(10000:Nat)=9999+1 from rfl,run_equalIn_agg w 9999 274 _ _ hS hp];simp only[Program.fieldsOf,underlying274];go_simp;unfold iP;by_cases h1:c=c'<;>by_cases h2:j=j'<;>simp[h1,h2]
def PutD(B n:Nat)(es:List Hold)(t m:Int)(w:World)(e:Ending)(w':World):Prop:=
 ∃g' n' c',e=R' (Z (Y ⟨g',0,O⟩) n' c')/\w'.ownsRow B 274 2 (Z (Y ⟨g',0,O⟩) n' c') n' (hcells (oG es ⟨t,m⟩))/\n'<=n+1/\Below w.heap.size w w'
theorem aV9(B g n c:Nat)(es:List Hold)(t m:Int)(w:World)(own:w.ownsRow B 274 2 (Z (Y ⟨g,0,O⟩) n c) n (hcells es))(hn:n<=1048576)(hB:B<=w.heap.size):
  Calls prog 206 #[Z (Y ⟨g,0,O⟩) n c,U #[I J t,I J m]] w fun e w'=>PutD B n es t m w e w':=by
 have h4:=aJ own;have HL:=h4.hlen;have hcap:=fH own;have hgl:=(aG own g rfl).2;obtain⟨j0,gi0,gz0,gz1,gz2⟩:=info_parts Tryz.info274;have kA:=f' w (M #[I J t,I J m] 274);obtain⟨y0,y1,_,_⟩:=aA9 (heap_alloc_new w (M #[I J t,I J m] 274));have yl:=aD y0;go_enter func206,ntmps206
 go_wp2;go_loopg [5] n (fun gk i wr=>∃k:Nat,gk=n-k/\k<=n/\i=I J k/\Hid (∀j,j<k->Ch.ltE (es.getD j Hold.zero) ⟨t,m⟩=A')/\wr.cell? ⟨w.heap.size,0,O⟩=Y (I J t)/\wr.cell? ⟨w.heap.size,1,O⟩=Y (I J m)/\w.heap.size<wr.heap.size/\Below w.heap.size w wr)
 case atStart=>exact⟨0,rfl,Nat.zero_le _,rfl,(fun j hj=>by omega),y0,y1,yl,kA⟩
 case round=>
  clear y0 y1 yl kA;obtain⟨k,rfl,hk,rfl,HA,z0,z1,ll,hW⟩:=hrel;have HX:Hid (∀r,es.getD k Hold.zero=r->k<n->Ch.ltE r ⟨t,m⟩=A'->∀j,j<k+1->Ch.ltE (es.getD j Hold.zero) ⟨t,m⟩=A'):=fun r hr _ he=>kS (p:=fun j=>Ch.ltE (es.getD j Hold.zero) ⟨t,m⟩) HA.out (by rw[hr];exact he);go_upto_region 2 with fail
  go_cut [39] (fun sl wx=>∃y q,sl=X y/\wx=wr.drewN q/\(y=A'->k<n/\∀j,j<k+1->Ch.ltE (es.getD j Hold.zero) ⟨t,m⟩=A')/\(y=F'->k<n->Ch.ltE (es.getD k Hold.zero) ⟨t,m⟩=F'))
  case first=>
   by_cases hlt:k<n
   .obtain⟨b,off,hbo,q0,q1⟩:=(h4.below hW).hold hlt;simp only[Option.some.injEq,Addr.mk.injEq,and_true]at hbo;obtain⟨rfl,rfl⟩:=hbo;rw[Nat.zero_add]at q0 q1;have hqb:=aD q0;generalize hr:es.getD k Hold.zero=r at*;obtain⟨rt,rm⟩:=r;simp only at q0 q1;have st:=fun he=>kS (p:=fun j=>Ch.ltE (es.getD j Hold.zero) ⟨t,m⟩) HA.out (show Ch.ltE (es.getD k Hold.zero) ⟨t,m⟩=A' by rw[hr];exact he);clear hr HX;by_cases h1:rt<t
    .have d1:decide (rt<t)=A':=by simpa using h1
     go_wp2;go_quiet (fail)
     go_wp2;go_meet;exact⟨A',_,rfl,rfl,fun _=>⟨hlt,st (rC.2 (.inl h1))⟩,fun h=>by cases h⟩
    have d1:decide (rt<t)=F':=by simpa using h1
    by_cases h2:rt=t
    .subst h2;have e2:(rt==rt)=A':=by simp
     by_cases h3:rm<m
     .have d3:decide (rm<m)=A':=by simpa using h3
      go_wp2;go_quiet (fail)
      go_wp2;go_meet;exact⟨A',_,rfl,rfl,fun _=>⟨hlt,st (rC.2 (.inr ⟨rfl,h3⟩))⟩,fun h=>by cases h⟩
     .have d3:decide (rm<m)=F':=by simpa using h3
      go_wp2;go_quiet (fail)
      go_wp2;go_meet;exact⟨F',_,rfl,rfl,fun h=>(by cases h),fun _ _=>by simp[Ch.ltE,d3]⟩
    .have e2:(rt==t)=F':=by simpa using h2
     go_wp2;go_quiet (fail)
     go_wp2;go_meet;exact⟨F',_,rfl,rfl,fun h=>(by cases h),fun _ _=>by simp[Ch.ltE,d1,h2]⟩
   .have hd:decide ((k:Int)<(n:Int))=F':=by simp;omega
    go_wp2;go_quiet (fail)
    go_wp2;go_meet;exact⟨F',_,rfl,rfl,fun h=>(by cases h),fun _ h=>absurd h hlt⟩
  case rest=>
   obtain⟨W1,hwn⟩:∃x:World,x=wc:=⟨_,rfl⟩
   subst hwn;obtain⟨y,q,rfl,hwc,hT,hF⟩:=hcut;replace hW:Below w.heap.size w W1:=by rw[hwc];exact⟨hW.os,hW.tape,hW.output,hW.size,hW.block⟩
   replace z0:W1.cell? ⟨w.heap.size,0,O⟩=Y (I J t):=by rw[hwc];exact z0
   replace z1:W1.cell? ⟨w.heap.size,1,O⟩=Y (I J m):=by rw[hwc];exact z1
   replace ll:w.heap.size<W1.heap.size:=by rw[hwc];exact ll
   clear hwc HX;cases y;rotate_left
   .obtain⟨hlt,hA⟩:=hT rfl;clear hF;go_wp2;go_roundg (n-(k+1))
    case rel=>exact⟨k+1,rfl,by omega,by go_num,hA,z0,z1,ll,hW⟩
    case measure=>omega
   have hIE:=cS3 (l:=es) (e:=⟨t,m⟩) (k:=k) (by have:=HL.out;omega) HA.out (fun h=>hF rfl (by have:=HL.out;omega));clear hF hT HA;go_wp2;go_upto_region 4 with fail
   go_cut [53] (fun sl wx=>∃y q,sl=X y/\wx=W1.drewN q/\(y=A'->oG es ⟨t,m⟩=es)/\(y=F'->oG es ⟨t,m⟩=es.take k++[⟨t,m⟩]++es.drop k))
   case first=>
    by_cases hlt:k<n
    .have hl:decide (k<es.length)=A':=by have:=HL.out;simp;omega
     obtain⟨b,off,hbo,q0,q1⟩:=(h4.below hW).hold hlt;simp only[Option.some.injEq,Addr.mk.injEq,and_true]at hbo;obtain⟨rfl,rfl⟩:=hbo;rw[Nat.zero_add]at q0 q1;have hqb:=aD q0;rw[hl,Bool.true_and]at hIE;generalize es.getD k Hold.zero=r at*;obtain⟨rt,rm⟩:=r;simp only at q0 q1;have heq:=dB9 rt rm t m;cases hs:iP ⟨rt,rm⟩ ⟨t,m⟩
     .rw[hs]at hIE heq;go_wp2;go_quiet (fail)
      go_wp2;go_meet;exact⟨F',_,rfl,rfl,fun h=>(by cases h),fun _=>hIE⟩
     .rw[hs]at hIE heq;go_wp2;go_quiet (fail)
      go_wp2;go_meet;exact⟨A',_,rfl,rfl,fun _=>hIE,fun h=>by cases h⟩
    .have hd:decide ((k:Int)<(n:Int))=F':=by simp;omega
     have hl:decide (k<es.length)=F':=by have:=HL.out;simp;omega
     rw[hl,Bool.false_and]at hIE;go_wp2;go_quiet (fail)
     go_wp2;go_meet;exact⟨F',_,rfl,rfl,fun h=>(by cases h),fun _=>hIE⟩
   case rest=>
    obtain⟨y,q,rfl,hwd,hI1,hI2⟩:=hcut;replace z0:wc.cell? ⟨w.heap.size,0,O⟩=Y (I J t):=by rw[hwd];exact z0
    replace z1:wc.cell? ⟨w.heap.size,1,O⟩=Y (I J m):=by rw[hwd];exact z1
    replace ll:w.heap.size<wc.heap.size:=by rw[hwd];exact ll
    replace hW:Below w.heap.size w wc:=by rw[hwd];exact⟨hW.os,hW.tape,hW.output,hW.size,hW.block⟩
    clear hwd hIE;cases y;rotate_left
    .have HI:=hid (hI1 rfl);clear hI1 hI2;go_wp2;go_ret;exact⟨g,n,c,rfl,by rw[HI.out];exact aF own hW,by omega,hW⟩
    have HI:=hid (hI2 rfl);clear hI1 hI2;have hkc:k<=c:=by omega
    have hI1a:∀u∈(hcells es).take (k*2),u.oneCell'=A':=fun u hu=>cF es u (List.mem_of_mem_take hu);have hI1b:∀u∈(hcells es).drop (k*2),u.oneCell'=A':=fun u hu=>cF es u (List.mem_of_mem_drop hu);have hCa:=yM (h4.below hW) (k:=k*2) (by omega);have hCb:CellsAt wc (if c=k then Y ⟨g,0,O⟩else Y ⟨g,k*2,O⟩) ((n-k)*2) ((hcells es).drop (k*2)):=by
     have:=bI4 (h4.below hW) (k:=k*2) (by omega);rw[Nat.zero_add,<-Nat.sub_mul]at this;split
     .exact⟨this.1,fun h=>by omega⟩
     .exact this
    go_upto_region 6 with fail
    have aE:AppT 247 274 2:=⟨_,_,_,underlying247,gi0,gz0,gz1,gz2,rfl,by omega,by omega⟩
    focus
     refine R0 (fun W'=>W'.cell? ⟨w.heap.size,0,O⟩=Y (I J t)/\W'.cell? ⟨w.heap.size,1,O⟩=Y (I J m)) ⟨z0,z1⟩ (fun hH=>?_);have b0:Below wc.heap.size wc wc.drew:=u'.drew;replace hW:=hW.drew;replace ll:w.heap.size<wc.drew.heap.size:=ll;replace hCa:=hCa.below b0;replace hCb:=hCb.below b0;clear b0 z0 z1;generalize wc.drew=V0 at*;have hS:=fun W (h:Below V0.heap.size V0 W)=>(⟨aC h hH.1,aC h hH.2⟩:W.cell? ⟨w.heap.size,0,O⟩=Y (I J t)/\W.cell? ⟨w.heap.size,1,O⟩=Y (I J m))
     refine R8 1 (h:=R8 2 (h:=R8 3 (h:=R8 5 (h:=R8 8 (h:=R8 9 (h:=R8 10 (h:=J3 ?_)))))));generalize(if c=k then(Y ⟨g,0,O⟩:Option Addr)else Y ⟨g,k*2,O⟩)=A at*;clear hH;refine J2 0 6 (fun K hK=>?_) (fun K hK=>?_);focus
      have oE:=nL V0 274 2;have b1:=f' V0 (M #[] 274);go_simp;refine hK.out _ _ (hS _ b1) (fun _=>?_);clear hK K;generalize V0.alloc (M #[] 274)=V1 at*;refine J2 4 6 (fun K hK=>?_) (fun K hK=>?_);focus
       refine lH aE (.tmp 55) (.tmp 58) rfl rfl V0.heap.size _ 0 [] (Y ⟨g,0,O⟩) k c ((hcells es).take (k*2)) rfl rfl oE (hCa.below b1) hI1a (by omega) b1.size ?_;intro a5 c5 V2 own5 gr5 at5;simp only[Nat.zero_add,List.nil_append]at own5 at5⊢;have b2:=b1.grown gr5 b1.size (fun g hg=>(aG oE g hg).1);refine hK.out _ _ (hS _ b2) (fun _=>?_);clear hK K;refine J3 (J1 6 (fun K hK=>?_));have hCN:=fT V2 t m 274;have b3:=f' V2 (M #[I J t,I J m] 274);replace own5:=aF own5 b3;have bV:=b2.trans (b3.mono b2.size);go_simp;refine hK.out _ _ (hS _ bV) (fun _=>?_);clear hK K;generalize V2.alloc (M #[I J t,I J m] 274)=V at*
      rotate_left;focus
       have hCN:=fT V1 t m 274;have b3:=f' V1 (M #[I J t,I J m] 274);have hne:=(aG oE _ rfl).2;replace oE:=aF oE b3;have b2:=b1.trans (b3.mono b1.size);go_simp;refine hK.out _ _ (hS _ b2) (fun _=>?_);clear hK K b3;generalize V1.alloc (M #[I J t,I J m] 274)=V2 at*;refine J3 (J1 4 (fun K hK=>?_));refine lH aE (.tmp 55) (.tmp 58) rfl rfl V0.heap.size _ 0 [] (Y ⟨g,0,O⟩) k c ((hcells es).take (k*2)) rfl rfl oE (hCa.below b2) hI1a (by omega) b2.size ?_;intro a5 c5 V own5 gr5 at5;simp only[Nat.zero_add,List.nil_append]at own5 at5⊢;have bV:=b2.grown gr5 b2.size (fun g hg=>(aG oE g hg).1);replace hCN:=gG hCN gr5 (fun b off ha e=>by cases ha;have e:=Option.some.inj e;(try dsimp only at e hne);(try dsimp only at e);omega);refine hK.out _ _ (hS _ bV) (fun _=>?_);clear hK K
     rotate_left 2
     focus
      have hCN:=fT V0 t m 274;have b3:=f' V0 (M #[I J t,I J m] 274);go_simp;refine hK.out _ _ (hS _ b3) (fun _=>?_);clear hK K;refine J3 (J1 0 (fun K hK=>?_));have hz1:(V0.alloc (M #[I J t,I J m] 274)).heap.size=V0.heap.size+1:=by simp
      generalize V0.alloc (M #[I J t,I J m] 274)=V1 at*;have oE:=aP (nL V1 274 2) b3.size;rw[hz1]at oE;have b1:=f' V1 (M #[] 274);replace hCN:=hCN.below b1;have b2:=b3.trans (b1.mono b3.size);go_simp;refine hK.out _ _ (hS _ b2) (fun _=>?_);clear hK K;generalize V1.alloc (M #[] 274)=V2 at*;refine J3 (J1 4 (fun K hK=>?_));refine lH aE (.tmp 55) (.tmp 58) rfl rfl V0.heap.size _ 0 [] (Y ⟨g,0,O⟩) k c ((hcells es).take (k*2)) rfl rfl oE (hCa.below b2) hI1a (by omega) b2.size ?_;intro a5 c5 V own5 gr5 at5;simp only[Nat.zero_add,List.nil_append]at own5 at5⊢;have bV:=b2.grown gr5 b2.size (fun g hg=>(aG oE g hg).1);replace hCN:=gG hCN gr5 (fun b off ha e=>by cases ha;have e:=Option.some.inj e;(try dsimp only at e hne);(try dsimp only at e);omega);refine hK.out _ _ (hS _ bV) (fun _=>?_);clear hK K
     all_goals
      refine J3 (J1 7 (fun K hK=>?_));refine lH aE (.tmp 59) (.tmp 61) rfl rfl V0.heap.size _ k _ (Y ⟨_,0,O⟩) 1 1 (hcells [⟨t,m⟩]) rfl rfl own5 hCN (cF _) (by omega) bV.size ?_;intro a7 c7 V7 own7 gr7 at7;have b7:=bV.grown gr7 bV.size (fun g hg=>(aG own5 g hg).1);refine hK.out _ _ (hS _ b7) (fun _=>?_);clear hK K;refine J3 (J1 11 (fun K hK=>?_));refine lH aE (.tmp 62) (.tmp 65) rfl rfl V0.heap.size _ (k+1) _ _ (n-k) (c-k) ((hcells es).drop (k*2)) rfl rfl own7 (hCb.below b7) hI1b (by omega) b7.size ?_;intro a8 c8 V8 own8 gr8 at8;have b8:=b7.grown gr8 b7.size (fun g hg=>(aG own7 g hg).1);refine hK.out _ _ (hS _ b8) (fun hH=>?_);clear hK K;refine J3 (R8 12 (h:=J3 (R7 ?_)));clear at8 at7 at5 gr8 gr7 gr5 own7 own5 hCN oE;have en:k+1+(n-k)=n+1:=by omega
      simp only[en]at own8⊢;rw[<-jX,<-aV1 es k (by have:=HL.out;omega),<-bZ,<-bZ,<-HI.out]at own8;obtain⟨g8,rfl⟩:=cA8 own8 (by omega);have hz:=hW.size;have hb:=hid (hW.trans (b8.mono hz));have O8:=hid (aP (base':=B) own8 (by omega));clear hH hS own8 hW b7 b8 bV;go_wp2;go_ret;exact⟨g8,n+1,c8,rfl,O8.out,by omega,hb.out⟩
theorem aQ6(w:World)(T:Nat->Nat)(b o:Nat)(cs:Array Value)(t:TypeId)(s:EgS)(e:Eng)(h:EgX w T b o cs t s e):
  Calls prog 185 #[.pointer (Y ⟨b,o,O⟩)] w fun r w'=>(∃a n c zs,r=R' (Z a n c)/\n<=1048576/\w'.ownsRow w.heap.size 2 1 (Z a n c) n (icells zs))/\Below w.heap.size w w':=by
 have hn:=h.own.n4;obtain⟨_,_,_,x3,_,_,_,_,_,_⟩:=h.all;have hbl:=h.lt;have oE:=nL w 2 1;have kE:=f' w (M #[] 2);have hR:=h.own.read;go_enter func185,ntmps185
 go_wp2;go_loopw [3,4] (fun q i wr=>∃(k m:Nat) (a:Option Addr) (c:Nat) (zs:List Int),k<=s.tn/\m<=k/\i=I J k/\q=Z a m c/\wr.ownsRow w.heap.size 2 1 (Z a m c) m (icells zs)/\Below w.heap.size w wr) (fun _ i _=>s.tn-(intOf i).toNat)
 case atStart=>exact⟨0,0,_,0,[],Nat.zero_le _,z',rfl,rfl,oE,kE⟩
 case round=>
  obtain⟨k,m,a,c,zs,hk,hm,rfl,rfl,hO,hB⟩:=hrel;have x3:=aC hB x3;have hbl:=aD x3;by_cases hlt:k<s.tn
  .obtain⟨g,off,au,nu,cu,hta,t0,t1,t2,t3,t4,t5,t6,t7,_,_⟩:=(hR.tx.below hB).txn hlt;rw[hta]at x3;have HTA:=hid hta;clear hta;have hg:=aD t0;generalize aQ e.tx k=tt at t0 t1 t2 t3 t4 t5 t6 t7;obtain⟨tid,tsy,tst,tun,twk,twa,twb,twv⟩:=tt;simp only at t0 t1 t2 t3 t4 t5 t6 t7;cases tsy
   .go_wp2;go_round
    case rel=>exact⟨k+1,m,a,c,zs,by omega,by omega,by go_num,rfl,hO,hB⟩
    case measure=>simp[intOf];omega
   .have kN:=f' wr (M #[I J tid] 2);have hN:=jP wr tid 2;have hO':=aF hO kN;have hbs:=hB.size;have hbs':w.heap.size<=(wr.alloc (M #[I J tid] 2)).heap.size:=by simp;omega
    go_wp2_with(at_builtin;refine aD8 uG (.tmp 23) (.tmp 32) ?_ ?_ w.heap.size (Z a m c) m (icells zs) (Y ⟨wr.heap.size,0,O⟩) 1 1 (icells [tid]) ?_ ?_ hO' hN (dN _) (by omega) hbs' ?_;exact rfl;exact rfl;exact rfl;exact rfl;intro a9 c9 W9 o9 gr9 at9)
    have hB9:Below w.heap.size w W9:=cJ (hB.trans (kN.mono hB.size)) gr9 (fun g hg=>(aG hO g hg).1) hbs';have o9':W9.ownsRow w.heap.size 2 1 (Z a9 (m+1) c9) (m+1) (icells (zs++[tid])):=by
     have:icells (zs++[tid])=icells zs++icells [tid]:=by simp[icells]
     rw[this];exact o9
    go_roundw;case rel=>exact⟨k+1,m+1,a9,c9,zs++[tid],by omega,by omega,by go_num,rfl,o9',hB9⟩
    case measure=>simp[intOf];omega
  .obtain rfl:k=s.tn:=by omega
   go_wp2;go_ret;exact⟨⟨a,m,c,zs,rfl,by omega,hO⟩,hB⟩
end Go.Proofs.YtpbbokalojdooaaGreat
