import Derived.Test.YtpbbokalojdooaaGreatQax
import Derived.Test.YtpbbokalojdooaaGreatQbg
namespace Go.Proofs.YtpbbokalojdooaaGreat
open Go.RowKit Ch Go.Proofs.Tryz
set_option linter.unusedSimpArgs false
set_option linter.unusedVariables false
set_option maxRecDepth 20000
set_option maxHeartbeats 8000000
open Value renaming int->I,slice->Z,bool->X,agg->U
open IntKind renaming i64->J
open Option renaming none->O,some->Y
open Obj renaming cells->M
open Ending renaming returned->R'
open Bool renaming true->A',false->F'
variable {cs:Array Value} {s:EgS} {e:Eng} {bs:List Bf} {zs:List Int} {rs:List Rec} {ys:List Value} {b c' g k n o tb:Nat} {T:Nat->Nat} {us:Nat->Value} {a a':Option Addr} {t:TypeId} {x:Value} {W W' w w':World}
theorem EgX.addAct{r:Ac}(h:EgX w T b o cs t s e)(hu:AcO w 0 T (Z s.aa s.an s.ac) s.an e.ac us)
  (hr:OwnT w 0 T 7 56 6 (Z s.aa s.an s.ac) s.an ys) (hc:∀i j,i<s.an->j<6->ys[i*6+j]? =Y (ac6 (eK e.ac i) (us i) j))
  (hx:OwnT w 0 T (2*s.an+11) 2 1 x r.an.length (icells r.an)) (hft:r.an.length<=1048576) (hn:s.an+1<=1048576)
  (ho:w'.ownsRow 0 56 6 (Z a' (s.an+1) c') (s.an+1) (ys++acc6 r x)) (hg:w.grownBy w' (Z s.aa s.an s.ac).ownBlock) (hat:∀g,(Z a' (s.an+1) c').ownBlock=Y g->(Z s.aa s.an s.ac).ownBlock=Y g\/w.heap.size<=g):
  EgX (w'.setCell ⟨b,o+9,O⟩ (Z a' (s.an+1) c')) (mrk T w.heap.size 7) b o (cs.setIfInBounds (o+9) (Z a' (s.an+1) c')) t {s with aa:=a',an:=s.an+1,ac:=c'} {e with ac:=e.ac++[r]}/\
   Stp T (mrk T w.heap.size 7) w (w'.setCell ⟨b,o+9,O⟩ (Z a' (s.an+1) c')) o cs (cs.setIfInBounds (o+9) (Z a' (s.an+1) c')):=by
 have k1:∀k,k≠7->Kp k T (mrk T w.heap.size 7) w w':=fun k hk=>dS hg (fun g hgg=>hr.2 g hgg) hk;obtain⟨h4,h5⟩:=aY h.box h.tag (k1 1 (by omega));have hT:=AcO.snoc (t:=r) (x:=x) hu.len hr.1.1 hc (OwnT.grown hr ho hat) (fun i hi=>(hu.an i hi).kept (k1 _ (by omega))) (hx.kept (k1 _ (by omega))) hu.few hft;have hE:=h.own.newAc (fun k _ _ h2 _=>k1 k h2) hT hn;have hs:=EgX.set (i:=9) (v:=Z a' (s.an+1) c') h4 h.cell h5 hE (by decide) rfl;exact⟨hs.1,(Stp.grown o cs hg (fun g hgg=>hr.2 g hgg) (by decide) (by decide)).trans hs.2⟩
theorem EgX.addTx{r:Tx}(h:EgX w T b o cs t s e)(hu:TxO w 0 T (Z s.ta s.tn s.tc) s.tn e.tx us)
  (hr:OwnT w 0 T 2 155 8 (Z s.ta s.tn s.tc) s.tn ys) (hc:∀i j,i<s.tn->j<8->ys[i*8+j]? =Y (tx8 (aQ e.tx i) (us i) j))
  (hx:OwnT w 0 T (2*s.tn+10) 263 3 x r.un.length (bfcells r.un)) (hft:r.un.length<=1048576) (hn:s.tn+1<=1048576)
  (ho:w'.ownsRow 0 155 8 (Z a' (s.tn+1) c') (s.tn+1) (ys++txc r x)) (hg:w.grownBy w' (Z s.ta s.tn s.tc).ownBlock) (hat:∀g,(Z a' (s.tn+1) c').ownBlock=Y g->(Z s.ta s.tn s.tc).ownBlock=Y g\/w.heap.size<=g):
  EgX (w'.setCell ⟨b,o+3,O⟩ (Z a' (s.tn+1) c')) (mrk T w.heap.size 2) b o (cs.setIfInBounds (o+3) (Z a' (s.tn+1) c')) t {s with ta:=a',tn:=s.tn+1,tc:=c'} {e with tx:=e.tx++[r]}/\
   Stp T (mrk T w.heap.size 2) w (w'.setCell ⟨b,o+3,O⟩ (Z a' (s.tn+1) c')) o cs (cs.setIfInBounds (o+3) (Z a' (s.tn+1) c')):=by
 have k1:∀k,k≠2->Kp k T (mrk T w.heap.size 2) w w':=fun k hk=>dS hg (fun g hgg=>hr.2 g hgg) hk;obtain⟨h4,h5⟩:=aY h.box h.tag (k1 1 (by omega));have hT:=TxO.snoc (t:=r) (x:=x) hu.len hr.1.1 hc (OwnT.grown hr ho hat) (fun i hi=>(hu.un i hi).kept (k1 _ (by omega))) (hx.kept (k1 _ (by omega))) hu.few hft;have hE:=h.own.newTx (fun k _ _ h2 _=>k1 k h2) hT hn;have hs:=EgX.set (i:=3) (v:=Z a' (s.tn+1) c') h4 h.cell h5 hE (by decide) rfl;exact⟨hs.1,(Stp.grown o cs hg (fun g hgg=>hr.2 g hgg) (by decide) (by decide)).trans hs.2⟩
theorem EgX.addCm{z:Int}(h:EgX w T b o cs t s e)(hn:s.mn+1<=1048576)
  (ho:w'.ownsRow 0 2 1 (Z a' (s.mn+1) c') (s.mn+1) (icells (e.cm++[z]))) (hg:w.grownBy w' (Z s.ma s.mn s.mc).ownBlock) (hat:∀g,(Z a' (s.mn+1) c').ownBlock=Y g->(Z s.ma s.mn s.mc).ownBlock=Y g\/w.heap.size<=g):
  EgX (w'.setCell ⟨b,o+8,O⟩ (Z a' (s.mn+1) c')) (mrk T w.heap.size 6) b o (cs.setIfInBounds (o+8) (Z a' (s.mn+1) c')) t {s with ma:=a',mn:=s.mn+1,mc:=c'} {e with cm:=e.cm++[z]}/\
   Stp T (mrk T w.heap.size 6) w (w'.setCell ⟨b,o+8,O⟩ (Z a' (s.mn+1) c')) o cs (cs.setIfInBounds (o+8) (Z a' (s.mn+1) c')):=by
 have hr:=h.own.cm;have k1:∀k,k≠6->Kp k T (mrk T w.heap.size 6) w w':=fun k hk=>dS hg (fun g hgg=>hr.2 g hgg) hk;obtain⟨h4,h5⟩:=aY h.box h.tag (k1 1 (by omega));have hE:=h.own.newCm (fun k _ _ h2=>k1 k h2) (OwnT.grown hr ho hat) hn;have hs:=EgX.set (i:=8) (v:=Z a' (s.mn+1) c') h4 h.cell h5 hE (by decide) rfl;exact⟨hs.1,(Stp.grown o cs hg (fun g hgg=>hr.2 g hgg) (by decide) (by decide)).trans hs.2⟩
theorem EgX.addSu(h:EgX w T b o cs t s e)(hb:IsB zs)(hn:n<=4100000)
  (ho:w'.ownsRow 0 5 1 (Z a' n c') n (bts zs)) (hg:w.grownBy w' (Z s.sa s.sn s.sc).ownBlock) (hat:∀g,(Z a' n c').ownBlock=Y g->(Z s.sa s.sn s.sc).ownBlock=Y g\/w.heap.size<=g):
  EgX (w'.setCell ⟨b,o+4,O⟩ (Z a' n c')) (mrk T w.heap.size 4) b o (cs.setIfInBounds (o+4) (Z a' n c')) t {s with sa:=a',sn:=n,sc:=c'} {e with su:=zs}/\
   Stp T (mrk T w.heap.size 4) w (w'.setCell ⟨b,o+4,O⟩ (Z a' n c')) o cs (cs.setIfInBounds (o+4) (Z a' n c')):=by
 have hr:=h.own.su;have k1:∀k,k≠4->Kp k T (mrk T w.heap.size 4) w w':=fun k hk=>dS hg (fun g hgg=>hr.2 g hgg) hk;obtain⟨h4,h5⟩:=aY h.box h.tag (k1 1 (by omega));have hE:=h.own.newSu (fun k _ _ h2=>k1 k h2) (OwnT.grown hr ho hat) hb hn;have hs:=EgX.set (i:=4) (v:=Z a' n c') h4 h.cell h5 hE (by decide) rfl;exact⟨hs.1,(Stp.grown o cs hg (fun g hgg=>hr.2 g hgg) (by decide) (by decide)).trans hs.2⟩
theorem EgX.noLo(h:EgX w T b o cs t s e):
  EgX (w.setCell ⟨b,o+5,O⟩ (Z O 0 0)) T b o (cs.setIfInBounds (o+5) (Z O 0 0)) t {s with oa:=O,on:=0,oc:=0} {e with lo:=[]}/\Stp T T w (w.setCell ⟨b,o+5,O⟩ (Z O 0 0)) o cs (cs.setIfInBounds (o+5) (Z O 0 0)):=by
 have hE:=h.own.newLo (a:=O) (n:=0) (c:=0) (zs:=[]) (fun k _ _ _=>Kp.refl k T w) ⟨World.ownsRow_nil _ _ _ _,fun g hg=>by simp[Value.ownBlock]at hg⟩ (fun i=>by simp) (by omega);exact EgX.set (i:=5) h.box h.cell h.tag hE (by decide) rfl
theorem EgX.addUn(h:EgX w T b o cs t s e)(ha:s.ta=Y ⟨tb,0,O⟩)(hk:k<s.tn)(hu:TxO w 0 T (Z s.ta s.tn s.tc) s.tn e.tx us)(hx:us k=x)
  (hn:n<=1048576) (hl:bs.length=n) (ho:w'.ownsRow 0 263 3 (Z a' n c') n (bfcells bs)) (hg:w.grownBy w' x.ownBlock) (hat:∀g,(Z a' n c').ownBlock=Y g->x.ownBlock=Y g\/w.heap.size<=g):
  EgX (w'.setCell ⟨tb,k*8+3,O⟩ (Z a' n c')) (mrk T w.heap.size (2*k+10)) b o cs t s {e with tx:=e.tx.set k {aQ e.tx k with un:=bs}}/\Stp T (mrk T w.heap.size (2*k+10)) w (w'.setCell ⟨tb,k*8+3,O⟩ (Z a' n c')) o cs cs:=by
 subst hx;have hr:=hu.un k hk;have k1:∀m,m≠2*k+10->Kp m T (mrk T w.heap.size (2*k+10)) w w':=fun m hm=>dS hg (fun g hgg=>hr.2 g hgg) hm;rw[ha]at hu;have hT2:T tb=2:=by obtain⟨_,⟨_,hr,_⟩,_,_⟩:=hu;exact hr.2 tb rfl
 have htl:tb<w.heap.size:=by obtain⟨_,⟨_,hr,_⟩,_,_⟩:=hu;exact(aG hr.1 tb rfl).2
 have hx':=OwnT.grown hr ho hat
 -- the transactions behind the append:all as they were but the one that grew
 have hrow:∃ys,OwnT w' 0 (mrk T w.heap.size (2*k+10)) 2 155 8 (Z (Y ⟨tb,0,O⟩) s.tn s.tc) s.tn ys/\∀i j,i<s.tn->j<8->ys[i*8+j]? =Y (tx8 (aQ e.tx i) (us i) j):=by obtain⟨ys,h1,h2⟩:=hu.row;exact⟨ys,h1.kept (k1 2 (by omega)),h2⟩
 obtain⟨ys,h1,h2⟩:=hrow;have hst:=h1.1.stored (k*8+3) (Z a' n c');have hyl:ys.length=s.tn*8:=h1.1.1;have hT2':mrk T w.heap.size (2*k+10) tb=2:=by rw[fB htl];exact hT2
 have k2:∀m,m≠2->Kp m (mrk T w.heap.size (2*k+10)) (mrk T w.heap.size (2*k+10)) w' (w'.setCell ⟨tb,k*8+3,O⟩ (Z a' n c')):=fun m hm=>pR hT2' hm;have k3:∀m,m≠2->m≠2*k+10->Kp m T (mrk T w.heap.size (2*k+10)) w (w'.setCell ⟨tb,k*8+3,O⟩ (Z a' n c')):=fun m h2 h3=>(k1 m h3).trans (k2 m h2) hg.size;have hkl:k<e.tx.length:=by rw[hu.len];exact hk
 have hN:TxO (w'.setCell ⟨tb,k*8+3,O⟩ (Z a' n c')) 0 (mrk T w.heap.size (2*k+10)) (Z (Y ⟨tb,0,O⟩) s.tn s.tc) s.tn (e.tx.set k {aQ e.tx k with un:=bs}) (fun i=>if i=k then Z a' n c' else us i):=by
  refine⟨by simpa using hu.len,⟨ys.set (k*8+3) (Z a' n c'),⟨hst.1,h1.2⟩,fun i i' hi hi'=>?_⟩,fun i hi=>?_,fun i=>?_⟩
  .rw[iC _ k i _ hkl];by_cases hik:k=i
   .subst hik;simp only[if_true];by_cases hjj:i'=3
    .subst hjj;rw[List.getElem?_set_self (by omega)];rfl
    .rw[List.getElem?_set_ne (by omega),h2 k i' hi hi'];match i',hi',hjj with
     |0,_,_=>rfl
     |1,_,_=>rfl
     |2,_,_=>rfl
     |4,_,_=>rfl
     |5,_,_=>rfl
     |6,_,_=>rfl
     |7,_,_=>rfl
   .rw[if_neg hik];simp only[if_neg (fun e=>hik (Eq.symm e))];rw[List.getElem?_set_ne (by omega)];exact h2 i i' hi hi'
  .rw[iC _ k i _ hkl];by_cases hik:k=i
   .subst hik;simp only[if_true];rw[hl];exact hx'.kept (k2 _ (by omega))
   .rw[if_neg hik];simp only[if_neg (fun e=>hik (Eq.symm e))];exact(hu.un i hi).kept (k3 _ (by omega) (by omega))
  .rw[iC _ k i _ hkl];split
   .show bs.length<=_;omega
   .exact hu.few i
 obtain⟨h4,h5⟩:=aY h.box h.tag (k3 1 (by omega) (by omega));refine⟨⟨?_,h4,h.cell,h5⟩,⟨hg.os,hg.tape,hg.output,by simpa using hg.size,k3 0 (by omega) (by omega),k3 8 (by omega) (by omega),fun _ _=>rfl,rfl⟩⟩;have:=h.own.newTx (a:=s.ta) (n:=s.tn) (c:=s.tc) (fun m _ _ h2 h3=>k3 m h2 (h3 k)) (by rw[ha];exact hN) h.own.n4;exact this
def tnD(j:Nat):Nat:=match j with|4=>12|11=>19|_=>20
def tnE:List Nat:=[4,11,12]
def tnP(j:Nat):List Nat:=match j with|12=>[4,11]|_=>[]
theorem bE1:(tnE.all fun i=>tnE.all fun j=>tnD i !=tnD j||i==j)=A':=by kernel_rfl
theorem cK3:tnE.Nodup:=by decide
def TnR(s:EgS)(e:Eng)(key:Int)(j:Nat)(v:Value)(T:Nat->Nat)(w:World):Prop:=match j with
 |4=>v=Z s.xa s.xn s.xc
 |11=>v=U #[I J (Ch.bf key (Ch.has e.lv key)).k,X (Ch.bf key (Ch.has e.lv key)).h,I J (Ch.bf key (Ch.has e.lv key)).v]
 |_=>∃a n c ix,v=Z a n c/\n<=s.xn+1/\CellsAt (gT (Ice T) w) a (n*2) (hcells ix)
theorem TnR.mono(s:EgS)(e:Eng)(key:Int):∀j v T T' w w',TnR s e key j v T w->(∀k,Kp k T T' w w')->w.heap.size<=w'.heap.size->TnR s e key j v T' w':=by
 intro j v T T' w w' h hk _;unfold TnR at*;split at h
 .exact h
 .exact h
 .obtain⟨a,n,c,ix,h1,h2,h3⟩:=h;exact⟨a,n,c,ix,h1,h2,h3.sub (eG (hk 0))⟩
def dI1(T:Nat->Nat)(w:World)(b o:Nat)(cs:Array Value)(t:TypeId)(s:EgS)(e:Eng)(r:Ending)(w':World):Prop:=
 r=R' (.tuple #[])/\∃T' cs' a n c ix,EgX w' T' b o cs' t {s with xa:=a,xn:=n,xc:=c} {e with ix:=ix}/\n<=s.xn+1/\Stp T T' w w' o cs cs'
theorem aK1(key:Int)(w:World)(T:Nat->Nat)(b o:Nat)(cs:Array Value)(t:TypeId)(s:EgS)(e:Eng)(h:EgX w T b o cs t s e)(hlv:aL e.lv=0)(hn:s.xn<=1048575):
  Calls prog 217 #[.pointer (Y ⟨b,o,O⟩),I J key] w (dI1 T w b o cs t s e):=by
 have HL:=h.own.lv.len;have hne:∀k,k<s.ln->(e.lv.getD k []).length≠0:=fun k hk=>(fR hlv k (by have:=HL.out;omega)).1;have hbl:=h.lt;obtain⟨x0,x1,x2,x3,x4,x5,x6,x7,x8,x9⟩:=h.all;obtain⟨bt,HBt⟩:∃bt,Hid (e.bt=bt):=⟨_,rfl⟩
 rw[HBt.out]at x7;go_enter func217,ntmps217
 cases bt
 .go_wp2;exact bodyPost_end (results_none rfl _ _ _) rfl ⟨rfl,T,cs,s.xa,s.xn,s.xc,e.ix,h,by omega,Stp.refl _ _ _ _⟩
 .go_wp2_with fail
  refine R0 (fun W'=>W'.cell? ⟨b,o+1,O⟩=Y (Z s.la s.ln s.lc)) (x1) (fun hH=>?_);refine R5 0 1 2 3 5 ?_;refine R5 6 7 8 9 10 ?_;refine rJ (d:=tnD) (E:=tnE) (L1:=#[A',A',A',A',A',A',A',A',A',A',A',A',A',F',F',F']) (fuel1:=3) (pre:=tnP) (R:=TnR s e key) (Bs:=fun T' W=>EgX W T' b o cs t s e/\Stp T T' w W o cs cs) bE1 cK3 (by kernel_rfl) (by kernel_rfl) (by kernel_rfl) (by kernel_rfl) (by kernel_rfl) (by kernel_rfl) (by kernel_rfl) (TnR.mono s e key) ?bs ?step ?last T ?init;case init=>exact⟨⟨h.own.kept (fun k _ _=>jN),h.box,h.cell,h.tag⟩,⟨rfl,rfl,rfl,z',jN,jN,fun _ _=>rfl,rfl⟩⟩
  case bs=>intro T' W hB;exact hB.1.all.2.1
  case step=>
   intro i hi vs T' W hB hp;unfold tnE at hi;simp only[List.mem_cons,List.not_mem_nil,or_false]at hi;rcases hi with rfl|rfl|rfl
   .obtain⟨_,_,_,_,_,_,y6,_,_,_⟩:=hB.1.all;refine kD ⟨Y 12,.load 66 (.tmp 11),_,_,_,O⟩ (Z s.xa s.xn s.xc) (by rfl) bE1 cK3 (by kernel_rfl) rfl ?_ ?_
    .intro ev h1 h2;have s1:ev (.tmp 11)= .pointer (Y ⟨b,o+6,O⟩):=(h2 11 (by kernel_rfl)).trans rfl;clear h1 h2;go_simp
    .exact⟨_,T',rfl,rfl,fun k=>Kp.refl k T' W,z',hB⟩
   .refine wpOp_step rfl (fun K hK=>?_);refine qB (xs:=#[.tmp 17,.tmp 18]) (vs:=#[Z s.la s.ln s.lc,I J key]) rfl rfl ?_ (by go_simp) ?_
    .exact dG6 ((dY tnD vs 17 tnE _ (by kernel_rfl)).trans rfl) ((dY tnD vs 18 tnE _ (by kernel_rfl)).trans rfl)
    .refine(oS s.la s.ln s.lc key e.lv _ (hB.1.own.lv.sub fI) hB.1.own.n2 hne).mono ?_;rintro r W2⟨rfl,hb⟩;exact⟨_,rfl,hK _ _ ⟨_,mrk T' W.heap.size 0,rfl,rfl,fun k=>bJ hb T' 0 k,hb.size,hB.1.below hb 0,hB.2.trans (Stp.below o cs hb 0)⟩⟩
   .have e4:vs 4=Z s.xa s.xn s.xc:=hp 4 (by simp[tnP]);have e11:vs 11=U #[I J (Ch.bf key (Ch.has e.lv key)).k,X (Ch.bf key (Ch.has e.lv key)).h,I J (Ch.bf key (Ch.has e.lv key)).v]:=hp 11 (by simp[tnP]);refine wpOp_step rfl (fun K hK=>?_);refine qB (xs:=#[.tmp 12,.tmp 13,.tmp 19]) (vs:=#[Z s.xa s.xn s.xc,I J key,U #[I J (Ch.bf key (Ch.has e.lv key)).k,X (Ch.bf key (Ch.has e.lv key)).h,I J (Ch.bf key (Ch.has e.lv key)).v]]) rfl rfl ?_ (by go_simp) ?_
    .exact dI6 ((mH tnD vs 4 tnE _ bE1 cK3 (by decide) (by kernel_rfl)).trans e4) ((dY tnD vs 13 tnE _ (by kernel_rfl)).trans rfl) ((mH tnD vs 11 tnE _ bE1 cK3 (by decide) (by kernel_rfl)).trans e11)
    .refine(bZ4 s.xa s.xn s.xc key _ _ _ e.ix _ (hB.1.own.ix.sub fI) hn).mono ?_;rintro r W2⟨g',m,c',rfl,hm,ho,hb⟩;exact⟨_,rfl,hK _ _ ⟨_,mrk T' W.heap.size 0,rfl,⟨_,m,c',_,rfl,hm,kL ho (jM T' W.heap.size)⟩,fun k=>bJ hb T' 0 k,hb.size,hB.1.below hb 0,hB.2.trans (Stp.below o cs hb 0)⟩⟩
  case last=>
   intro vs T' W hB hR;have e4:vs 4=Z s.xa s.xn s.xc:=hR 4 (by simp[tnE]);obtain⟨a,n,c,ix,e12,hm,hc⟩:=hR 12 (by simp[tnE]);clear hR;obtain⟨hX,hS⟩:=hB;dsimp only[dV,tnE,List.foldl];simp only[Act.put,tnD,List.setIfInBounds_toArray,List.set_cons_zero,List.set_cons_succ];rw[e4,e12];have hset:=EgX.set (i:=6) (v:=Z a n c) hX.box hX.cell hX.tag (hX.own.newIx hc (by omega)) (by decide) rfl;obtain⟨_,y1,_,_,_,_,y6,_,_,_⟩:=hX.all;have f6:=hX.frz (o+6);have hH:W.cell? ⟨b,o+1,O⟩=Y (Z s.la s.ln s.lc):=y1;refine R2 13 14 ?_;refine R6 15 (fun K hK=>?_);go_simp;refine hK.out _ _ ?_ (fun hH=>?_)
   .exact hset.1.all.2.1
   clear hK K;refine R7 ?_;go_wp2;exact bodyPost_end (results_none rfl _ _ _) rfl ⟨rfl,T',_,a,n,c,ix,hset.1,hm,hS.trans hset.2⟩
theorem Stp.own8{T':Nat->Nat}{cs':Array Value}(h:Stp T T' w W o cs cs')(hg:W.grownBy W' (Y g))(hT:T' g=8)(hge:w.heap.size<=g):Stp T T' w W' o cs cs':=
 ⟨hg.os.trans h.os,hg.tape.trans h.tape,hg.output.trans h.output,Nat.le_trans h.size hg.size,h.k0.trans (iW hg hT (by decide)) h.size,fun x hx ht=>by obtain⟨h1,h2⟩:=h.k8 x hx ht;have:=h.size;exact⟨(hg.block x (by omega) (fun he=>by simp at he;omega)).trans h1,h2⟩,h.rest,h.same⟩
theorem EgX.own8(h:EgX W T b o cs t s e)(hg:W.grownBy W' (Y g))(hT:T g=8):EgX W' T b o cs t s e:=by obtain⟨h4,h5⟩:=aY h.box h.tag (iW hg hT (by decide:1≠8));exact⟨h.own.kept (fun k _ h8=>iW hg hT h8),h4,h.cell,h5⟩
theorem EgX.tb2(h:EgX W T b o cs t s e)(ha:s.ta=Y ⟨tb,0,O⟩)(_:k<s.tn):T tb=2:=by obtain⟨us,hT⟩:=h.own.tx;rw[ha]at hT;obtain⟨_,⟨_,hr,_⟩,_,_⟩:=hT;exact hr.2 tb rfl
theorem dE1(rs:List Rec)(k j:Nat)(h:k<rs.length)(hj:j<7):(rc7 rs)[k*7+j]? =(c7 (rs.getD k Rec.zero))[j]? :=by
 induction rs generalizing k with
 |nil=>simp at h
 |cons r rs ih=>
  cases k with
  |zero=>simp only[rc7,List.flatMap_cons,Nat.zero_mul,Nat.zero_add];rw[List.getElem?_append_left (by simp[c7];omega)];rfl
  |succ k=>have:=ih k (by simpa using h);simp only[rc7,List.flatMap_cons]at*;rw[List.getElem?_append_right (by simp[c7];omega)];rw[show(k+1)*7+j-(c7 r).length=k*7+j by simp[c7];omega];simpa using this
theorem CellsAt.recN(h:CellsAt w a (n*7) (rc7 rs)):Hid (n=rs.length):=by show n=rs.length;have:=h.1;rw[bC9]at this;omega
theorem CellsAt.recE(h:CellsAt w a (n*7) (rc7 rs))(hk:k<n):
  ∃b off,a=Y ⟨b,off,O⟩/\w.cell? ⟨b,off+k*7,O⟩=Y (I J (rs.getD k Rec.zero).kd)/\w.cell? ⟨b,off+k*7+1,O⟩=Y (I J (rs.getD k Rec.zero).tx)/\w.cell? ⟨b,off+k*7+2,O⟩=Y (I J (rs.getD k Rec.zero).ky)/\w.cell? ⟨b,off+k*7+3,O⟩=Y (X (rs.getD k Rec.zero).hd)/\w.cell? ⟨b,off+k*7+4,O⟩=Y (I J (rs.getD k Rec.zero).ol)/\w.cell? ⟨b,off+k*7+5,O⟩=Y (X (rs.getD k Rec.zero).hs)/\w.cell? ⟨b,off+k*7+6,O⟩=Y (I J (rs.getD k Rec.zero).nw):=by
 have hl:=h.recN.out;obtain⟨b,off,ha,hc⟩:=h.2 (by omega);have c:=fun j (hj:j<7)=>(hc (k*7+j) (by omega)).trans (dE1 rs k j (by omega) hj);simp only[<-Nat.add_assoc]at c;exact⟨b,off,ha,c 0 (by decide),c 1 (by decide),c 2 (by decide),c 3 (by decide),c 4 (by decide),c 5 (by decide),c 6 (by decide)⟩
theorem EgX.cellsTx(h:EgX W T b o cs t s e)(ha:s.ta=Y ⟨tb,0,O⟩)(hk:k<s.tn):
  (∃v,W.cell? ⟨tb,k*8+2,O⟩=Y v)/\(∃v,W.cell? ⟨tb,k*8+3,O⟩=Y v)/\(∃v,W.cell? ⟨tb,k*8+4,O⟩=Y v)/\(∃v,W.cell? ⟨tb,k*8+5,O⟩=Y v)/\(∃v,W.cell? ⟨tb,k*8+6,O⟩=Y v)/\(∃v,W.cell? ⟨tb,k*8+7,O⟩=Y v)/\∀i,W.frozen? ⟨tb,i,O⟩=F':=by
 obtain⟨us,hT⟩:=h.own.tx;obtain⟨_,⟨cs',hr,_⟩,_,_⟩:=id hT;obtain⟨b1,off,au,nu,cu,ha1,t0,t1,t2,t3,t4,t5,t6,t7,_,_⟩:=hT.at.txn hk;rw[ha]at ha1 hr;simp at ha1;obtain⟨rfl,rfl⟩:=ha1;rw[Nat.zero_add]at t2 t3 t4 t5 t6 t7;refine⟨⟨_,t2⟩,⟨_,t3⟩,⟨_,t4⟩,⟨_,t5⟩,⟨_,t6⟩,⟨_,t7⟩,fun i=>?_⟩;rcases hr.1.2 with⟨h0,_⟩|⟨g,cap,cur,hv,hb,hc,_⟩
 .simp at h0
 .simp only[Value.slice.injEq,Option.some.injEq,Addr.mk.injEq]at hv;obtain⟨⟨rfl,_⟩,_⟩:=hv;exact frozen_of_row _ _ _ _ _ hc
theorem sI{u0 u1 u2:Value}(h:W.heap[g]? =Y (M #[u0,u1,u2] t (0,0))):W.cell? ⟨g,0,O⟩=Y u0/\W.cell? ⟨g,1,O⟩=Y u1/\W.cell? ⟨g,2,O⟩=Y u2:=
 ⟨cell_of_row _ _ _ _ _ _ h,cell_of_row _ _ _ _ _ _ h,cell_of_row _ _ _ _ _ _ h⟩
structure EgC(d a:Nat)(s s':EgS)(e e':Eng):Prop where
 lv:aL e'.lv=0
 tn:s'.tn=s.tn
 sn:s'.sn=s.sn
 mn:s'.mn=s.mn
 on:s'.on<=s.on+d*451
 xn:s'.xn<=s.xn+d*41
 an:s'.an<=s.an+a
 un:∀i,(aQ e'.tx i).un=(aQ e.tx i).un\/(aQ e'.tx i).un=[]
 tl:e'.tx.length=e.tx.length
theorem EgC.refl(s:EgS)(e:Eng)(h:aL e.lv=0):EgC 0 0 s s e e:=⟨h,rfl,rfl,rfl,by omega,by omega,by omega,fun _=>.inl rfl,rfl⟩
theorem EgC.trans{d d' a a':Nat}{s' s'':EgS}{e' e'':Eng}(h:EgC d a s s' e e')(h':EgC d' a' s' s'' e' e''):EgC (d+d') (a+a') s s'' e e'':=
 ⟨h'.lv,h'.tn.trans h.tn,h'.sn.trans h.sn,h'.mn.trans h.mn,by have:=h.on;have:=h'.on;rw[Nat.add_mul];omega,by have:=h.xn;have:=h'.xn;rw[Nat.add_mul];omega,by have:=h.an;have:=h'.an;omega,fun i=>by
  rcases h'.un i with h1|h1
  .rcases h.un i with h2|h2
   .exact .inl (h1.trans h2)
   .exact .inr (h1.trans h2)
  .exact .inr h1,h'.tl.trans h.tl⟩
def dH7(tx:Int)(T:Nat->Nat)(w:World)(b o:Nat)(cs:Array Value)(t:TypeId)(s:EgS)(e:Eng)(r:Ending)(w':World):Prop:=
 r=R' (.tuple #[])/\∃T' cs' s' e',EgX w' T' b o cs' t s' e'/\Stp T T' w w' o cs cs'/\EgC 1 0 s s' e e'/\e'.lk=(dG e.lk tx).filter iD/\s'.an=s.an
theorem EgX.wipe(h:EgX w T b o cs t s e)(ha:s.ta=Y ⟨tb,0,O⟩)(hk:k<s.tn):
  ∃e',EgX ((((((w.setCell ⟨tb,k*8+3,O⟩ (Z O 0 0)).setCell ⟨tb,k*8+2,O⟩ (I J 4)).setCell ⟨tb,k*8+4,O⟩ (I J 0)).setCell ⟨tb,k*8+4+1,O⟩ (I J 0)).setCell ⟨tb,k*8+4+2,O⟩ (I J 0)).setCell ⟨tb,k*8+4+3,O⟩ (I J 0)) T b o cs t s e'/\
   Stp T T w ((((((w.setCell ⟨tb,k*8+3,O⟩ (Z O 0 0)).setCell ⟨tb,k*8+2,O⟩ (I J 4)).setCell ⟨tb,k*8+4,O⟩ (I J 0)).setCell ⟨tb,k*8+4+1,O⟩ (I J 0)).setCell ⟨tb,k*8+4+2,O⟩ (I J 0)).setCell ⟨tb,k*8+4+3,O⟩ (I J 0)) o cs cs/\
   e'.lv=e.lv/\e'.lk=e.lk/\(∀i,(aQ e'.tx i).un=(aQ e.tx i).un\/(aQ e'.tx i).un=[])/\e'.tx.length=e.tx.length:=by
 have hkl:k<e.tx.length:=by obtain⟨us,hT⟩:=h.own.tx;rw[hT.len];exact hk
 have h1:=h.noUndo ha hk;have E:∀{w:World} {e:Eng} (h:EgX w T b o cs t s e) (hkl:k<e.tx.length) (j:Nat) (v:Value) (t':Tx) (hj:j<8),(∀x i,i<8->tx8 t' x i=if i=j then v else tx8 (aQ e.tx k) x i)->t'.un=(aQ e.tx k).un->
   EgX (w.setCell ⟨tb,k*8+j,O⟩ v) T b o cs t s {e with tx:=e.tx.set k t'}/\Stp T T w (w.setCell ⟨tb,k*8+j,O⟩ v) o cs cs/\(∀i,(aQ (e.tx.set k t') i).un=(aQ e.tx i).un):=by
  intro w e h hkl j v t' hj hv hu;have h2:=h.setTx ha hk hj hv hu;refine⟨h2.1,h2.2,fun i=>?_⟩;rw[iC _ _ _ _ hkl];split
  .rename_i he;subst he;exact hu
  .rfl
 have u1:∀i,(aQ (e.tx.set k {aQ e.tx k with un:=[]}) i).un=(aQ e.tx i).un\/(aQ (e.tx.set k {aQ e.tx k with un:=[]}) i).un=[]:=by
  intro i;rw[iC _ _ _ _ hkl];split
  .exact .inr rfl
  .exact .inl rfl
 have C:∀(P:Nat->Prop),P 0->P 1->P 2->P 3->P 4->P 5->P 6->P 7->∀i,i<8->P i:=by
  intro P p0 p1 p2 p3 p4 p5 p6 p7 i hi;match i,hi with
  |0,_=>exact p0
  |1,_=>exact p1
  |2,_=>exact p2
  |3,_=>exact p3
  |4,_=>exact p4
  |5,_=>exact p5
  |6,_=>exact p6
  |7,_=>exact p7
 have h2:=E h1.1 (by simpa using hkl) 2 (I J 4) {aQ _ k with st:=4} (by decide) (fun x=>C _ rfl rfl rfl rfl rfl rfl rfl rfl) rfl;have h3:=E h2.1 (by simpa using hkl) 4 (I J 0) {aQ _ k with wk:=0} (by decide) (fun x=>C _ rfl rfl rfl rfl rfl rfl rfl rfl) rfl;have h4:=E h3.1 (by simpa using hkl) 5 (I J 0) {aQ _ k with wa:=0} (by decide) (fun x=>C _ rfl rfl rfl rfl rfl rfl rfl rfl) rfl;have h5:=E h4.1 (by simpa using hkl) 6 (I J 0) {aQ _ k with wb:=0} (by decide) (fun x=>C _ rfl rfl rfl rfl rfl rfl rfl rfl) rfl;have h6:=E h5.1 (by simpa using hkl) 7 (I J 0) {aQ _ k with wv:=0} (by decide) (fun x=>C _ rfl rfl rfl rfl rfl rfl rfl rfl) rfl;refine⟨_,h6.1,((((h1.2.trans h2.2.1).trans h3.2.1).trans h4.2.1).trans h5.2.1).trans h6.2.1,rfl,rfl,fun i=>?_,by simp⟩;have e1:=(h6.2.2 i).trans ((h5.2.2 i).trans ((h4.2.2 i).trans ((h3.2.2 i).trans (h2.2.2 i))));rcases u1 i with h7|h7
 .exact .inl (e1.trans h7)
 .exact .inr (e1.trans h7)
def gwD(j:Nat):Nat:=match j with|9=>23|_=>5
def gwE:List Nat:=[9,10]
def gwP(_:Nat):List Nat:=[]
theorem bX0:(gwE.all fun i=>gwE.all fun j=>gwD i !=gwD j||i==j)=A':=by kernel_rfl
theorem cW4:gwE.Nodup:=by decide
def GwR(H:Nat)(rc:Int)(nl:List (List Row))(rs:List Rec)(j:Nat)(v:Value)(T:Nat->Nat)(w:World):Prop:=match j with
 |9=>∃a1 m1 c1 a2 m2 c2,v=U #[I J rc,Z a1 m1 c1,Z a2 m2 c2]/\LvAt (gT (Ice T) w) a1 m1 nl/\CellsAt (gT (Ice T) w) a2 (m2*7) (rc7 rs)
 |_=>∃g,v= .pointer (Y ⟨g,0,O⟩)/\w.heap[g]? =Y (M #[I J 0,Z O 0 0,Z O 0 0] 285 (0,0))/\T g=8/\H<=g
theorem GwR.mono(H:Nat)(rc:Int)(nl:List (List Row))(rs:List Rec):∀j v T T' w w',GwR H rc nl rs j v T w->(∀k,Kp k T T' w w')->w.heap.size<=w'.heap.size->GwR H rc nl rs j v T' w':=by
 intro j v T T' w w' h hk _;unfold GwR at*;split at h
 .obtain⟨a1,m1,c1,a2,m2,c2,h1,h2,h3⟩:=h;exact⟨a1,m1,c1,a2,m2,c2,h1,h2.sub (eG (hk 0)),h3.sub (eG (hk 0))⟩
 .obtain⟨g,h1,h2,h3,h6⟩:=h;obtain⟨h4,h5⟩:=aY h2 h3 (hk 8);exact⟨g,h1,h4,h5,h6⟩
theorem aK0(tx:Int)(k:Nat)(w:World)(T:Nat->Nat)(b o:Nat)(cs:Array Value)(t:TypeId)(s:EgS)(e:Eng)(h:EgX w T b o cs t s e)(hk:k<s.tn)(htx:tx=(k:Int)+1)(ht:inB tx 1 999=A')(hlv:aL e.lv=0)(hlk:aS e.lk=0)(hbf:cT (aQ e.tx k).un=0)(hon:s.on+500<=4100000)(hxn:s.xn+50<=1048575):
  Calls prog 207 #[.pointer (Y ⟨b,o,O⟩),I J tx] w (dH7 tx T w b o cs t s e):=by
 have hn4:=h.own.n4;have hw:IntKind.i64.wrap (tx-1)=(k:Int):=by rw[htx,show(k:Int)+1-1=(k:Int)by omega];exact IntWalk.i64_in _ ⟨by omega,by omega⟩
 have HTX:=hid htx;clear htx;obtain⟨us,hT⟩:=h.own.tx;obtain⟨tb,hta⟩:=hT.place (by omega);obtain⟨g0,off,au,nu,cu,ha0,t0,t1,t2,t3,t4,t5,t6,t7,hU,hnu0⟩:=hT.at.txn hk;rw[hta]at ha0;obtain⟨hg0,ho0⟩:g0=tb/\off=0:=by simp at ha0;exact⟨ha0.1.symm,ha0.2.symm⟩
 rw[hg0,ho0,Nat.zero_add]at t3;clear ha0 t0 t1 t2 t4 t5 t6 t7 hg0 ho0;obtain⟨hfew,hb1⟩:=aB7 hbf;have HUn:=hU.bflen;have hnu:nu<=40:=by have:=HUn.out;omega
 have hback:=qX (tx:=tx) hlv (aQ e.tx k).un;have HFit:=hid (aY5 hlv ht _ hb1);generalize(aQ e.tx k).un=bs at*;obtain⟨st,HST⟩:∃st,Hid (cX tx e.lv bs=st):=⟨_,rfl⟩
 have HBL:Hid (bs.length<=40):=hfew;rw[HST.out]at hback HFit;obtain⟨rc,nl,rs⟩:=st;simp only at hback HFit;have hfe:Rec.Fit ⟨5,tx,0,F',0,F',0⟩:=⟨by show(1:Int)<=5/\(5:Int)<=5;omega,fM ht,by show(0:Int)<=0/\(0:Int)<=99;omega,by show(0:Int)<=0/\(0:Int)<=9999;omega,by show(0:Int)<=0/\(0:Int)<=9999;omega,fun _=>⟨rfl,rfl,rfl,rfl,rfl⟩⟩
 have hlm:∀i,(nl.getD i []).length<=9223372036854775807:=fun i=>by have:=eZ hback.1 i;omega
 have HKL:=h.own.lk.len;have hbl:=h.lt;have htl:=aD t3;obtain⟨x0,x1,x2,x3,x4,x5,x6,x7,x8,x9⟩:=h.all;rw[hta]at x3;have HTA:=hid hta;clear hta;go_enter func207,ntmps207
 go_wp2_with fail
 refine R0 (fun W'=>W'.cell? ⟨b,o+1,O⟩=Y (Z s.la s.ln s.lc)/\W'.cell? ⟨tb,k*8+3,O⟩=Y (Z au nu cu)) (⟨x1,t3⟩) (fun hH=>?_);refine R5 0 1 2 3 4 ?_;refine R4 5 6 7 8 ?_;refine vQ (d:=gwD) (E:=gwE) (z:=11) (pre:=gwP) (R:=GwR w.heap.size rc nl rs) (Bs:=fun T' W=>EgX W T' b o cs t s e/\Stp T T' w W o cs cs/\W.cell? ⟨tb,k*8+3,O⟩=Y (Z au nu cu)/\CellsAt W au (nu*3) (bfcells bs)) bX0 cW4 (by kernel_rfl) (by kernel_rfl) (by kernel_rfl) (by kernel_rfl) (by kernel_rfl) (by kernel_rfl) (by kernel_rfl) (Nat.le_of_ble_eq_true (by kernel_rfl)) (GwR.mono w.heap.size rc nl rs) ?bs ?step ?last T ?init;case init=>exact⟨⟨h.own.kept (fun k _ _=>jN),h.box,h.cell,h.tag⟩,⟨rfl,rfl,rfl,z',jN,jN,fun _ _=>rfl,rfl⟩,t3,hU.below (u'.drew)⟩
 case bs=>intro T' W hB;exact⟨hB.1.all.2.1,hB.2.2.1⟩
 case step=>
  intro i hi vs T' W hB hp;unfold gwE at hi;simp only[List.mem_cons,List.not_mem_nil,or_false]at hi;rcases hi with rfl|rfl
  .refine wpOp_step rfl (fun K hK=>?_);refine qB (xs:=#[.tmp 17,.tmp 18,.tmp 22]) (vs:=#[Z s.la s.ln s.lc,I J tx,Z au nu cu]) rfl rfl ?_ (by go_simp) ?_
   .exact dI6 ((dY gwD vs 17 gwE _ (by kernel_rfl)).trans rfl) ((dY gwD vs 18 gwE _ (by kernel_rfl)).trans rfl) ((dY gwD vs 22 gwE _ (by kernel_rfl)).trans rfl)
   .have hU8:=bZ2 s.la s.ln s.lc tx au nu cu e.lv bs _ (hB.1.own.lv.sub fI) hlv ht hb1 hB.2.2.2 hnu;rw[HST.out]at hU8;refine hU8.mono ?_;rintro r W2⟨a1,m1,c1,a2,m2,c2,rfl,⟨vs',lo,hi,hV,hR,_⟩,hb⟩;exact⟨_,rfl,hK _ _ ⟨_,mrk T' W.heap.size 0,rfl,⟨a1,m1,c1,a2,m2,c2,rfl,OwnLv.seen ⟨hV.1,vs',hV.2⟩ hlm (jM T' W.heap.size),kL hR (jM T' W.heap.size)⟩,fun k=>bJ hb T' 0 k,hb.size,hB.1.below hb 0,hB.2.1.trans (Stp.below o cs hb 0),aC hb hB.2.2.1,hB.2.2.2.below hb⟩⟩
  .have hb:=f' W (M #[I J 0,Z O 0 0,Z O 0 0] 285);refine vZ ⟨Y 5,.alloc 285,_,_,_,O⟩ (.pointer (Y ⟨W.heap.size,0,O⟩)) (W.alloc (M #[I J 0,Z O 0 0,Z O 0 0] 285)) (by rfl) bX0 cW4 (by kernel_rfl) rfl ?_ ?_
   .intro ev h1 h2;clear h1 h2;go_simp
   .exact⟨_,mrk T' W.heap.size 8,rfl,⟨W.heap.size,rfl,aO rfl,by unfold mrk;rw[if_neg (by omega)],hB.2.1.size⟩,fun k'=>bJ hb T' 8 k',hb.size,hB.1.below hb 8,hB.2.1.trans (Stp.below o cs hb 8),aC hb hB.2.2.1,hB.2.2.2.below hb⟩
 case last=>
  intro vs T' W hB hR K0 hK0;obtain⟨a1,m1,c1,a2,m2,c2,e9,hL,hC⟩:=hR 9 (by simp[gwE]);obtain⟨g,e10,hg,hTg,hgw⟩:=hR 10 (by simp[gwE]);clear hR;obtain⟨hX,hS,t3,hU⟩:=hB;have q0:W.cell? ⟨g,0,O⟩=Y (I J 0):=cell_of_row _ g 0 _ _ _ hg;have q1:W.cell? ⟨g,1,O⟩=Y (Z O 0 0):=cell_of_row _ g 1 _ _ _ hg;have q2:W.cell? ⟨g,2,O⟩=Y (Z O 0 0):=cell_of_row _ g 2 _ _ _ hg;have f0:=frozen_of_row _ g 0 _ _ hg;have f1:=frozen_of_row _ g 1 _ _ hg;have f2:=frozen_of_row _ g 2 _ _ hg;have h0:=heap_setCell_same W g 0 _ _ (I J rc) hg;have h1:=heap_setCell_same _ g 1 _ _ (Z a1 m1 c1) h0;have h2:=heap_setCell_same _ g 2 _ _ (Z a2 m2 c2) h1;have hgr:W.grownBy (((W.setCell ⟨g,0,O⟩ (I J rc)).setCell ⟨g,1,O⟩ (Z a1 m1 c1)).setCell ⟨g,2,O⟩ (Z a2 m2 c2)) (Y g):=cN (cN nI);refine tI ⟨O,.store 285 (.tmp 5) (.tmp 23),_,_,_,O⟩ (((W.setCell ⟨g,0,O⟩ (I J rc)).setCell ⟨g,1,O⟩ (Z a1 m1 c1)).setCell ⟨g,2,O⟩ (Z a2 m2 c2)) (by rfl) bX0 cW4 (by kernel_rfl) rfl ?_ ?_
  .intro ev h1 h2;have s1:ev (.tmp 5)=_:=(h1 10 (by kernel_rfl)).trans e10;have s2:ev (.tmp 23)=_:=(h1 9 (by kernel_rfl)).trans e9;clear h1 h2;go_simp
  .have hX2:=hX.own8 hgr hTg;have hS2:=hS.own8 hgr hTg hgw;have hL2:=hL.sub (eG (iW hgr hTg (by decide:0≠8)));have hC2:=hC.sub (eG (iW hgr hTg (by decide:0≠8)));have hbx:(((W.setCell ⟨g,0,O⟩ (I J rc)).setCell ⟨g,1,O⟩ (Z a1 m1 c1)).setCell ⟨g,2,O⟩ (Z a2 m2 c2)).heap[g]? =Y (M #[I J rc,Z a1 m1 c1,Z a2 m2 c2] 285 (0,0)):=h2;have t3':(((W.setCell ⟨g,0,O⟩ (I J rc)).setCell ⟨g,1,O⟩ (Z a1 m1 c1)).setCell ⟨g,2,O⟩ (Z a2 m2 c2)).cell? ⟨tb,k*8+3,O⟩=Y (Z au nu cu):=aM hgr t3 (by intro he;simp at he;subst he;have h6:=hX.own.tx;obtain⟨us',hT'⟩:=h6;rw[HTA.out]at hT';obtain⟨_,⟨_,hr,_⟩,_,_⟩:=hT';have:=hr.2 g rfl;omega)
   generalize(((W.setCell ⟨g,0,O⟩ (I J rc)).setCell ⟨g,1,O⟩ (Z a1 m1 c1)).setCell ⟨g,2,O⟩ (Z a2 m2 c2))=W2 at*;clear hgr h0 h1 h2 q0 q1 q2 f0 f1 f2 hg hX hS hL hC t3;refine hK0 _ _ ⟨hX2.all.2.1,t3'⟩ (NoPanic.normal ?_);dsimp only[dV,gwE,List.foldl];simp only[Act.put,gwD,List.setIfInBounds_toArray,List.set_cons_zero,List.set_cons_succ];rw[e9,e10];clear e9 e10 vs hK0 K0 hU;have hTb:T' tb=2:=hX2.tb2 HTA.out hk;have hTb1:T' b=1:=hX2.tag;have hgb:¬g=b:=by intro he;subst he;omega
   have hgt:¬g=tb:=by intro he;subst he;omega
   by_cases hrc:rc=0
   .subst hrc;have hlg:aL nl=0:=hback.2.2 rfl;have HN2:=hC2.recN;have hm2:m2<=40:=by have:=HN2.out;have:=HBL.out;have:=hback.2.1;omega
    have hset:=EgX.set (i:=1) (v:=Z a1 m1 c1) hX2.box hX2.cell hX2.tag (hX2.own.newLv (c:=c1) hL2 hback.1) (by decide) rfl;have hC3:CellsAt (gT (Ice T') (W2.setCell ⟨b,o+1,O⟩ (Z a1 m1 c1))) a2 (m2*7) (rc7 rs):=hC2.sub (eG hset.2.k0);have hbx3:(W2.setCell ⟨b,o+1,O⟩ (Z a1 m1 c1)).heap[g]? =Y (M #[I J 0,Z a1 m1 c1,Z a2 m2 c2] 285 (0,0)):=by rw[Below.heap_setCell _ _ _ _ (by simpa using hgb)];exact hbx
    have hX3:=hset.1;have hS3:=hS2.trans hset.2;have y1:=hX2.all.2.1;have f1:=hX2.frz (o+1);obtain⟨g0,g1,g2⟩:=sI hbx;clear hset;go_wp2_with fail
    go_loopw [6] (fun i wr=>∃(j:Nat) (Tj:Nat->Nat) (cj:Array Value) (a3:Option Addr) (n3 c3:Nat) (lo3:List Int) (a4:Option Addr) (n4 c4:Nat) (ix4:List Hold),j<=m2/\i=I J j/\EgX wr Tj b o cj t {s with la:=a1,ln:=m1,lc:=c1,oa:=a3,on:=n3,oc:=c3,xa:=a4,xn:=n4,xc:=c4} {e with lv:=nl,lo:=lo3,ix:=ix4}/\Stp T Tj w wr o cs cj/\n3<=s.on+j*11/\n4<=s.xn+j/\wr.heap[g]? =Y (M #[I J 0,Z a1 m1 c1,Z a2 m2 c2] 285 (0,0))/\Tj g=8/\CellsAt (gT (Ice Tj) wr) a2 (m2*7) (rc7 rs)) (fun i _=>m2-(intOf i).toNat)
    case atStart=>exact⟨0,T',_,s.oa,s.on,s.oc,e.lo,s.xa,s.xn,s.xc,e.ix,Nat.zero_le _,rfl,hX3,hS3,by omega,by omega,hbx3,hTg,hC3⟩
    case round=>
     obtain⟨j,Tj,cj,a3,n3,c3,lo3,a4,n4,c4,ix4,hj,rfl,hXj,hSj,hn3,hn4',hbj,hTj,hCj⟩:=hrel;clear g0 g1 g2 hX2 hS2 hL2 hC2 hbx t3' hX3 hS3 hC3 hbx3 y1 f1 hTg;obtain⟨g0,g1,g2⟩:=sI hbj;have hgl:=aD g0;by_cases hlt:j<m2
     .obtain⟨b7,o7,ha7,r0,r1,r2,r3,r4,r5,r6⟩:=hCj.recE hlt;have hfit:=HFit.out (rs.getD j Rec.zero) (by rw[List.getD_eq_getElem?_getD,List.getElem?_eq_getElem (by have:=HN2.out;omega)];exact List.getElem_mem _);generalize rs.getD j Rec.zero=rr at r0 r1 r2 r3 r4 r5 r6 hfit;obtain⟨kd,tx',ky,hd,ol,hs,nw⟩:=rr;simp only at r0 r1 r2 r3 r4 r5 r6;have z0:=(gM r0).1;have z1:=(gM r1).1;have z2:=(gM r2).1;have z3:=(gM r3).1;have z4:=(gM r4).1;have z5:=(gM r5).1;have z6:=(gM r6).1;rw[ha7]at g2;have hb7:=aD z0;have HA7:=hid ha7;clear ha7;go_wp2_with first
       |(refine(oY kd tx' ky hd ol hs nw _ _ b o _ t _ _ hXj hfit (by show n3+11<=4100000;omega)).mono ?_
         rintro r W6⟨rfl,T6,c6,a6,n6,k6,lo6,hX6,hn6,hS6⟩;obtain⟨hb6,hT6⟩:=hS6.k8 g hgl hTj;rw[hbj]at hb6;obtain⟨q0,q1,q2⟩:=sI hb6;rw[HA7.out]at q2;have q7:=(gM (eG hS6.k0 _ _ _ r2)).1;have hC6:=hCj.sub (eG hS6.k0);have hgl6:=aD q0;clear r0 r1 r3 r4 r5 r6)
       |(refine(aK1 ky _ _ b o _ t _ _ hX6 hlg (by show n4<=1048575;omega)).mono ?_
         rintro r W7⟨rfl,T7,c7,a7,n7,k7,ix7,hX7,hn7,hS7⟩;obtain⟨hb7',hT7⟩:=hS7.k8 g hgl6 hT6;rw[hb6]at hb7';have hC7:=hC6.sub (eG hS7.k0))
      go_roundw;case rel=>exact⟨j+1,T7,c7,a6,n6,k6,lo6,a7,n7,k7,ix7,by omega,by go_num,hX7,(hSj.trans hS6).trans hS7,by omega,by omega,hb7',hT7,hC7⟩
      case measure=>simp[intOf];omega
     .obtain rfl:j=m2:=by omega
      have hXt:=hXj;have hSt:=hSj;have hnt:n3<=s.on+440/\n4<=s.xn+40:=by have:=HN2.out;have:=HBL.out;have:=hback.2.1;omega
      have hlt':aL nl=0:=hlg;go_wp2_with fail
      refine(oY 5 tx 0 F' 0 F' 0 _ _ b o _ t _ _ hXt hfe (by(try simp only);omega)).mono ?_;rintro r W8⟨rfl,T8,c8,a8,n8,k8,lo8,hX8,hn8,hS8⟩
      (try simp only at hn8)
      obtain⟨⟨v2,z2⟩,⟨v3,z3⟩,⟨v4,z4⟩,⟨v5,z5⟩,⟨v6,z6⟩,⟨v7,z7⟩,fz⟩:=hX8.cellsTx HTA.out hk;have fz2:=fz (k*8+2);have fz3:=fz (k*8+3);have fz4:=fz (k*8+4);have fz5:=fz (k*8+5);have fz6:=fz (k*8+6);have fz7:=fz (k*8+7);obtain⟨e9,hX9,hS9,hlv9,hlk9,hun9,htl9⟩:=hX8.wipe HTA.out hk;have hLk9:=hX9.own.lk.sub fI;rw[hlk9]at hLk9;have y2:=hX9.all.2.2.1;have hbt:¬tb=b:=by have h1:=hX8.tag;have h2:=hX8.tb2 HTA.out hk;intro he;subst he;omega
      have htl8:=aD z3;have hbl8:=hX8.lt;go_wp2_with fail
      refine(xR _ _ _ tx e.lk _ hLk9 (by have:=mK hlk;have:=HKL.out;omega) (fun i hi=>by have:=qN hlk (show i<e.lk.length by have:=HKL.out;omega);exact⟨this.1,this.2.1,this.2.2.1,this.2.2.2.1⟩)).mono ?_;rintro r WA⟨aA,mA,cA,aB,mB,cB,rfl,_,_,hLkA,hbA⟩;have hXA:=hX9.below hbA 0;have hSA:=Stp.below (T:=T8) o c8 hbA 0;have hset:=EgX.set (i:=2) (v:=Z aB mB cB) hXA.box hXA.cell hXA.tag (hXA.own.newLk (c:=cB) (hLkA.seen (jM _ _)) (by have:=sM hlk tx;omega)) (by decide) rfl;have yA:=hXA.all.2.2.1;have fA:=hXA.frz (o+2);have hblA:=hXA.lt;go_wp2;exact bodyPost_end (results_none rfl _ _ _) rfl ⟨rfl,_,_,_,_,hset.1,(((hSt.trans hS8).trans hS9).trans hSA).trans hset.2,⟨by simp only;rw[hlv9];exact hlt',rfl,rfl,rfl,by simp only;omega,by simp only;omega,by simp only;omega,hun9,htl9⟩,rfl,rfl⟩
   .have g0:W2.cell? ⟨g,0,O⟩=Y (I J rc):=cell_of_row _ g 0 _ _ _ hbx;have hrb:(rc==0)=F':=by simpa using hrc
    have hXt:=hX2;have hSt:=hS2;have hnt:s.on<=s.on+440/\s.xn<=s.xn+40:=by omega
    have hlt':aL e.lv=0:=hlv;go_wp2_with fail
    refine(oY 5 tx 0 F' 0 F' 0 _ _ b o _ t _ _ hXt hfe (by(try simp only);omega)).mono ?_;rintro r W8⟨rfl,T8,c8,a8,n8,k8,lo8,hX8,hn8,hS8⟩
    (try simp only at hn8)
    obtain⟨⟨v2,z2⟩,⟨v3,z3⟩,⟨v4,z4⟩,⟨v5,z5⟩,⟨v6,z6⟩,⟨v7,z7⟩,fz⟩:=hX8.cellsTx HTA.out hk;have fz2:=fz (k*8+2);have fz3:=fz (k*8+3);have fz4:=fz (k*8+4);have fz5:=fz (k*8+5);have fz6:=fz (k*8+6);have fz7:=fz (k*8+7);obtain⟨e9,hX9,hS9,hlv9,hlk9,hun9,htl9⟩:=hX8.wipe HTA.out hk;have hLk9:=hX9.own.lk.sub fI;rw[hlk9]at hLk9;have y2:=hX9.all.2.2.1;have hbt:¬tb=b:=by have h1:=hX8.tag;have h2:=hX8.tb2 HTA.out hk;intro he;subst he;omega
    have htl8:=aD z3;have hbl8:=hX8.lt;go_wp2_with fail
    refine(xR _ _ _ tx e.lk _ hLk9 (by have:=mK hlk;have:=HKL.out;omega) (fun i hi=>by have:=qN hlk (show i<e.lk.length by have:=HKL.out;omega);exact⟨this.1,this.2.1,this.2.2.1,this.2.2.2.1⟩)).mono ?_;rintro r WA⟨aA,mA,cA,aB,mB,cB,rfl,_,_,hLkA,hbA⟩;have hXA:=hX9.below hbA 0;have hSA:=Stp.below (T:=T8) o c8 hbA 0;have hset:=EgX.set (i:=2) (v:=Z aB mB cB) hXA.box hXA.cell hXA.tag (hXA.own.newLk (c:=cB) (hLkA.seen (jM _ _)) (by have:=sM hlk tx;omega)) (by decide) rfl;have yA:=hXA.all.2.2.1;have fA:=hXA.frz (o+2);have hblA:=hXA.lt;go_wp2;exact bodyPost_end (results_none rfl _ _ _) rfl ⟨rfl,_,_,_,_,hset.1,(((hSt.trans hS8).trans hS9).trans hSA).trans hset.2,⟨by simp only;rw[hlv9];exact hlt',rfl,rfl,rfl,by simp only;omega,by simp only;omega,by simp only;omega,hun9,htl9⟩,rfl,rfl⟩
end Go.Proofs.YtpbbokalojdooaaGreat
