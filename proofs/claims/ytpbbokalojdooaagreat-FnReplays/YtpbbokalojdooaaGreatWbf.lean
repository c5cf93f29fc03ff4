import Derived.Test.YtpbbokalojdooaaGreatWap
import Derived.Test.YtpbbokalojdooaaGreatWbe
namespace Go.Proofs.YtpbbokalojdooaaGreat
open Go.RowKit Ch Go.Proofs.Tryz
set_option linter.unusedSimpArgs false
set_option linter.unusedVariables false
set_option maxRecDepth 20000
set_option maxHeartbeats 8000000
open Value renaming int->I,slice->Z,bool->X,agg->U
open IntKind renaming i64->J
open Option renaming none->O,some->Y
open Obj renaming cells->M
open Ending renaming returned->R'
open Bool renaming true->A',false->F'
variable {cs:Array Value} {s:EgS} {e:Eng} {c:Int} {bs:List Bf} {zs:List Int} {ys:List Value} {b c' n o:Nat} {T:Nat->Nat} {us:Nat->Value} {a':Option Addr} {t:TypeId} {x:Value} {w w':World}
theorem EgX.addAct{r:Ac}(h:EgX w T b o cs t s e)(hu:AcO w 0 T (Z s.aa s.an s.ac) s.an e.ac us)
  (hr:OwnT w 0 T 7 56 6 (Z s.aa s.an s.ac) s.an ys) (hc:∀i j,i<s.an->j<6->ys[i*6+j]? =Y (ac6 (aM e.ac i) (us i) j))
  (hx:OwnT w 0 T (2*s.an+11) 2 1 x r.an.length (icells r.an)) (hft:r.an.length<=1048576) (hn:s.an+1<=1048576)
  (ho:w'.ownsRow 0 56 6 (Z a' (s.an+1) c') (s.an+1) (ys++acc6 r x)) (hg:w.grownBy w' (Z s.aa s.an s.ac).ownBlock) (hat:∀g,(Z a' (s.an+1) c').ownBlock=Y g->(Z s.aa s.an s.ac).ownBlock=Y g\/w.heap.size<=g):
  EgX (w'.setCell ⟨b,o+9,O⟩ (Z a' (s.an+1) c')) (mrk T w.heap.size 7) b o (cs.setIfInBounds (o+9) (Z a' (s.an+1) c')) t {s with aa:=a',an:=s.an+1,ac:=c'} {e with ac:=e.ac++[r]}/\
   Stp T (mrk T w.heap.size 7) w (w'.setCell ⟨b,o+9,O⟩ (Z a' (s.an+1) c')) o cs (cs.setIfInBounds (o+9) (Z a' (s.an+1) c')):=by
 have k1:∀k,k≠7->Kp k T (mrk T w.heap.size 7) w w':=fun k hk=>dF hg (fun g hgg=>hr.2 g hgg) hk;obtain⟨h4,h5⟩:=bJ h.box h.tag (k1 1 (by omega));have hT:=AcO.snoc (t:=r) (x:=x) hu.len hr.1.1 hc (OwnT.grown hr ho hat) (fun i hi=>(hu.an i hi).kept (k1 _ (by omega))) (hx.kept (k1 _ (by omega))) hu.few hft;have hE:=h.own.newAc (fun k _ _ h2 _=>k1 k h2) hT hn;have hs:=EgX.set (i:=9) (v:=Z a' (s.an+1) c') h4 h.cell h5 hE (by decide) rfl;exact⟨hs.1,(Stp.grown o cs hg (fun g hgg=>hr.2 g hgg) (by decide) (by decide)).trans hs.2⟩
theorem EgX.addTx{r:Tx}(h:EgX w T b o cs t s e)(hu:TxO w 0 T (Z s.ta s.tn s.tc) s.tn e.tx us)
  (hr:OwnT w 0 T 2 155 8 (Z s.ta s.tn s.tc) s.tn ys) (hc:∀i j,i<s.tn->j<8->ys[i*8+j]? =Y (tx8 (aS e.tx i) (us i) j))
  (hx:OwnT w 0 T (2*s.tn+10) 263 3 x r.un.length (bfcells r.un)) (hft:r.un.length<=1048576) (hn:s.tn+1<=1048576)
  (ho:w'.ownsRow 0 155 8 (Z a' (s.tn+1) c') (s.tn+1) (ys++txc r x)) (hg:w.grownBy w' (Z s.ta s.tn s.tc).ownBlock) (hat:∀g,(Z a' (s.tn+1) c').ownBlock=Y g->(Z s.ta s.tn s.tc).ownBlock=Y g\/w.heap.size<=g):
  EgX (w'.setCell ⟨b,o+3,O⟩ (Z a' (s.tn+1) c')) (mrk T w.heap.size 2) b o (cs.setIfInBounds (o+3) (Z a' (s.tn+1) c')) t {s with ta:=a',tn:=s.tn+1,tc:=c'} {e with tx:=e.tx++[r]}/\
   Stp T (mrk T w.heap.size 2) w (w'.setCell ⟨b,o+3,O⟩ (Z a' (s.tn+1) c')) o cs (cs.setIfInBounds (o+3) (Z a' (s.tn+1) c')):=by
 have k1:∀k,k≠2->Kp k T (mrk T w.heap.size 2) w w':=fun k hk=>dF hg (fun g hgg=>hr.2 g hgg) hk;obtain⟨h4,h5⟩:=bJ h.box h.tag (k1 1 (by omega));have hT:=TxO.snoc (t:=r) (x:=x) hu.len hr.1.1 hc (OwnT.grown hr ho hat) (fun i hi=>(hu.un i hi).kept (k1 _ (by omega))) (hx.kept (k1 _ (by omega))) hu.few hft;have hE:=h.own.newTx (fun k _ _ h2 _=>k1 k h2) hT hn;have hs:=EgX.set (i:=3) (v:=Z a' (s.tn+1) c') h4 h.cell h5 hE (by decide) rfl;exact⟨hs.1,(Stp.grown o cs hg (fun g hgg=>hr.2 g hgg) (by decide) (by decide)).trans hs.2⟩
theorem EgX.addCm{z:Int}(h:EgX w T b o cs t s e)(hn:s.mn+1<=1048576)
  (ho:w'.ownsRow 0 2 1 (Z a' (s.mn+1) c') (s.mn+1) (icells (e.cm++[z]))) (hg:w.grownBy w' (Z s.ma s.mn s.mc).ownBlock) (hat:∀g,(Z a' (s.mn+1) c').ownBlock=Y g->(Z s.ma s.mn s.mc).ownBlock=Y g\/w.heap.size<=g):
  EgX (w'.setCell ⟨b,o+8,O⟩ (Z a' (s.mn+1) c')) (mrk T w.heap.size 6) b o (cs.setIfInBounds (o+8) (Z a' (s.mn+1) c')) t {s with ma:=a',mn:=s.mn+1,mc:=c'} {e with cm:=e.cm++[z]}/\
   Stp T (mrk T w.heap.size 6) w (w'.setCell ⟨b,o+8,O⟩ (Z a' (s.mn+1) c')) o cs (cs.setIfInBounds (o+8) (Z a' (s.mn+1) c')):=by
 have hr:=h.own.cm;have k1:∀k,k≠6->Kp k T (mrk T w.heap.size 6) w w':=fun k hk=>dF hg (fun g hgg=>hr.2 g hgg) hk;obtain⟨h4,h5⟩:=bJ h.box h.tag (k1 1 (by omega));have hE:=h.own.newCm (fun k _ _ h2=>k1 k h2) (OwnT.grown hr ho hat) hn;have hs:=EgX.set (i:=8) (v:=Z a' (s.mn+1) c') h4 h.cell h5 hE (by decide) rfl;exact⟨hs.1,(Stp.grown o cs hg (fun g hgg=>hr.2 g hgg) (by decide) (by decide)).trans hs.2⟩
theorem EgX.addSu(h:EgX w T b o cs t s e)(hb:IsB zs)(hn:n<=4100000)
  (ho:w'.ownsRow 0 5 1 (Z a' n c') n (bts zs)) (hg:w.grownBy w' (Z s.sa s.sn s.sc).ownBlock) (hat:∀g,(Z a' n c').ownBlock=Y g->(Z s.sa s.sn s.sc).ownBlock=Y g\/w.heap.size<=g):
  EgX (w'.setCell ⟨b,o+4,O⟩ (Z a' n c')) (mrk T w.heap.size 4) b o (cs.setIfInBounds (o+4) (Z a' n c')) t {s with sa:=a',sn:=n,sc:=c'} {e with su:=zs}/\
   Stp T (mrk T w.heap.size 4) w (w'.setCell ⟨b,o+4,O⟩ (Z a' n c')) o cs (cs.setIfInBounds (o+4) (Z a' n c')):=by
 have hr:=h.own.su;have k1:∀k,k≠4->Kp k T (mrk T w.heap.size 4) w w':=fun k hk=>dF hg (fun g hgg=>hr.2 g hgg) hk;obtain⟨h4,h5⟩:=bJ h.box h.tag (k1 1 (by omega));have hE:=h.own.newSu (fun k _ _ h2=>k1 k h2) (OwnT.grown hr ho hat) hb hn;have hs:=EgX.set (i:=4) (v:=Z a' n c') h4 h.cell h5 hE (by decide) rfl;exact⟨hs.1,(Stp.grown o cs hg (fun g hgg=>hr.2 g hgg) (by decide) (by decide)).trans hs.2⟩
theorem EgX.noLo(h:EgX w T b o cs t s e):
  EgX (w.setCell ⟨b,o+5,O⟩ (Z O 0 0)) T b o (cs.setIfInBounds (o+5) (Z O 0 0)) t {s with oa:=O,on:=0,oc:=0} {e with lo:=[]}/\Stp T T w (w.setCell ⟨b,o+5,O⟩ (Z O 0 0)) o cs (cs.setIfInBounds (o+5) (Z O 0 0)):=by
 have hE:=h.own.newLo (a:=O) (n:=0) (c:=0) (zs:=[]) (fun k _ _ _=>Kp.refl k T w) ⟨Aw _ _ _ _,fun g hg=>by simp[Value.ownBlock]at hg⟩ (fun i=>by simp) (by omega);exact EgX.set (i:=5) h.box h.cell h.tag hE (by decide) rfl
theorem EgX.addUn{tb k:Nat}(h:EgX w T b o cs t s e)(ha:s.ta=Y ⟨tb,0,O⟩)(hk:k<s.tn)(hu:TxO w 0 T (Z s.ta s.tn s.tc) s.tn e.tx us)(hx:us k=x)
  (hn:n<=1048576) (hl:bs.length=n) (ho:w'.ownsRow 0 263 3 (Z a' n c') n (bfcells bs)) (hg:w.grownBy w' x.ownBlock) (hat:∀g,(Z a' n c').ownBlock=Y g->x.ownBlock=Y g\/w.heap.size<=g):
  EgX (w'.setCell ⟨tb,k*8+3,O⟩ (Z a' n c')) (mrk T w.heap.size (2*k+10)) b o cs t s {e with tx:=e.tx.set k {aS e.tx k with un:=bs}}/\Stp T (mrk T w.heap.size (2*k+10)) w (w'.setCell ⟨tb,k*8+3,O⟩ (Z a' n c')) o cs cs:=by
 subst hx;have hr:=hu.un k hk;have k1:∀m,m≠2*k+10->Kp m T (mrk T w.heap.size (2*k+10)) w w':=fun m hm=>dF hg (fun g hgg=>hr.2 g hgg) hm;rw[ha]at hu;have hT2:T tb=2:=by obtain⟨_,⟨_,hr,_⟩,_,_⟩:=hu;exact hr.2 tb rfl
 have htl:tb<w.heap.size:=by obtain⟨_,⟨_,hr,_⟩,_,_⟩:=hu;exact(aH hr.1 tb rfl).2
 have hx':=OwnT.grown hr ho hat
 -- the transactions behind the append:all as they were but the one that grew
 have hrow:∃ys,OwnT w' 0 (mrk T w.heap.size (2*k+10)) 2 155 8 (Z (Y ⟨tb,0,O⟩) s.tn s.tc) s.tn ys/\∀i j,i<s.tn->j<8->ys[i*8+j]? =Y (tx8 (aS e.tx i) (us i) j):=by obtain⟨ys,h1,h2⟩:=hu.row;exact⟨ys,h1.kept (k1 2 (by omega)),h2⟩
 obtain⟨ys,h1,h2⟩:=hrow;have hst:=h1.1.stored (k*8+3) (Z a' n c');have hyl:ys.length=s.tn*8:=h1.1.1;have hT2':mrk T w.heap.size (2*k+10) tb=2:=by rw[dR htl];exact hT2
 have k2:∀m,m≠2->Kp m (mrk T w.heap.size (2*k+10)) (mrk T w.heap.size (2*k+10)) w' (w'.setCell ⟨tb,k*8+3,O⟩ (Z a' n c')):=fun m hm=>kL hT2' hm;have k3:∀m,m≠2->m≠2*k+10->Kp m T (mrk T w.heap.size (2*k+10)) w (w'.setCell ⟨tb,k*8+3,O⟩ (Z a' n c')):=fun m h2 h3=>(k1 m h3).trans (k2 m h2) hg.size;have hkl:k<e.tx.length:=by rw[hu.len];exact hk
 have hN:TxO (w'.setCell ⟨tb,k*8+3,O⟩ (Z a' n c')) 0 (mrk T w.heap.size (2*k+10)) (Z (Y ⟨tb,0,O⟩) s.tn s.tc) s.tn (e.tx.set k {aS e.tx k with un:=bs}) (fun i=>if i=k then Z a' n c' else us i):=by
  refine⟨by simpa using hu.len,⟨ys.set (k*8+3) (Z a' n c'),⟨hst.1,h1.2⟩,fun i i' hi hi'=>?_⟩,fun i hi=>?_,fun i=>?_⟩
  .rw[iE _ k i _ hkl];by_cases hik:k=i
   .subst hik;simp only[Fl];by_cases hjj:i'=3
    .subst hjj;rw[Fk (by omega)];rfl
    .rw[Ea (by omega),h2 k i' hi hi'];match i',hi',hjj with
     |0,_,_=>rfl
     |1,_,_=>rfl
     |2,_,_=>rfl
     |4,_,_=>rfl
     |5,_,_=>rfl
     |6,_,_=>rfl
     |7,_,_=>rfl
   .rw[if_neg hik];simp only[if_neg (fun e=>hik (Eq.symm e))];rw[Ea (by omega)];exact h2 i i' hi hi'
  .rw[iE _ k i _ hkl];by_cases hik:k=i
   .subst hik;simp only[Fl];rw[hl];exact hx'.kept (k2 _ (by omega))
   .rw[if_neg hik];simp only[if_neg (fun e=>hik (Eq.symm e))];exact(hu.un i hi).kept (k3 _ (by omega) (by omega))
  .rw[iE _ k i _ hkl];split
   .show bs.length<=_;omega
   .exact hu.few i
 obtain⟨h4,h5⟩:=bJ h.box h.tag (k3 1 (by omega) (by omega));refine⟨⟨?_,h4,h.cell,h5⟩,⟨hg.os,hg.tape,hg.output,by simpa using hg.size,k3 0 (by omega) (by omega),k3 8 (by omega) (by omega),fun _ _=>rfl,rfl⟩⟩;have:=h.own.newTx (a:=s.ta) (n:=s.tn) (c:=s.tc) (fun m _ _ h2 h3=>k3 m h2 (h3 k)) (by rw[ha];exact hN) h.own.n4;exact this
theorem bD9(P o:Nat)(a a':Option Addr)(n m cap cap':Nat)(ss ls:List Int)(w:World)(p0:w.cell? ⟨P,o,O⟩=Y (Z a n cap))(p1:w.cell? ⟨P,o+1,O⟩=Y (Z a' m cap'))(h:CellsAt w a n (bts ss))(h':CellsAt w a' m (bts ls))(hb:IsB ss)(hb':IsB ls)(hn:n<=4100000)(hm:m<=4100000)(hcap:n<=cap)(hcap':m<=cap'):
  Calls prog 175 #[.pointer (Y ⟨P,o,O⟩)] w fun e w'=>e=R' (I J (eC ss ls))/\V' w w':=by
 have HL:=h.len;have HM:=h'.len;by_cases hbig:4000<n+m
 .have hi:(4000:Int)<(n:Int)+(m:Int):=by omega
  have HF:Hid (eC ss ls=2):=sT (by have:=HL.out;have:=HM.out;omega);go_enter func175,ntmps175
  go_wp2;go_quiet (fail)
  go_wp2;go_ret;exact⟨by rw[HF.out];rfl,Cj (Aa _ _) _⟩
 .have hi:¬(4000:Int)<(n:Int)+(m:Int):=by omega
  have HN:Hid (¬4000<ss.length+ls.length):=by have:=HL.out;have:=HM.out;show ¬_;omega
  go_enter func175,ntmps175
  go_wp2;go_quiet (fail)
  go_wp2_with fail
  refine(aN1 a n cap ss _ (h.below (Cj (Aa _ _) _)) hb (by omega) hcap).mono ?_;rintro e w1⟨g1,c1,rfl,o1,b1⟩;replace b1:V' w w1:=⟨b1.os,b1.tape,b1.output,b1.size,b1.block⟩
  have x0:=keep_cell b1 p0;have x1:=keep_cell b1 p1;clear o1;generalize(iS ss).length=q1;have hE:Hid (((kY ss:Int) !=(n:Int))=!(kY ss==ss.length)):=by show _=_;rw[<-HL.out,Fe];simp only[bne_iff_ne,ne_eq,Ec,Cq];omega
  cases h1:(kY ss==ss.length)
  .have HF:Hid (eC ss ls=5):=sU HN.out (.inl h1);have hne:=hE.out;rw[h1]at hne;simp only[El]at hne;clear h1 hE;go_wp2_with fail
   go_ret;exact⟨by rw[HF.out];rfl,b1⟩
  .have hne:=hE.out;rw[h1]at hne;simp only[Fm]at hne;clear hE;go_wp2_with fail
   refine(aN1 a' m cap' ls _ (h'.below b1) hb' (by omega) hcap').mono ?_;rintro e w2⟨g2,c2,rfl,o2,b2⟩;have b2':=b1.trans (b2.mono b1.size);have y1:=keep_cell b2 x1;clear o2 b2 hne;generalize(iS ls).length=q2;have hE:Hid (((kY ls:Int) !=(m:Int))=!(kY ls==ls.length)):=by show _=_;rw[<-HM.out,Fe];simp only[bne_iff_ne,ne_eq,Ec,Cq];omega
   cases h2:(kY ls==ls.length)
   .have HF:Hid (eC ss ls=5):=sU HN.out (.inr h2);have hne:=hE.out;rw[h2]at hne;simp only[El]at hne;clear h1 h2 hE;go_wp2_with fail
    go_ret;exact⟨by rw[HF.out];rfl,b2'⟩
   .have HF:Hid (eC ss ls=0):=aQ9 HN.out h1 h2;have hne:=hE.out;rw[h2]at hne;simp only[Fm]at hne;clear h1 h2 hE;go_wp2_with fail
    go_ret;exact⟨by rw[HF.out];rfl,b2'⟩
def RestC(e:Eng)(r:Ending):Prop:=∃c,r=R' (I J c)/\(c=0->eC e.su e.lo=0/\gK e.ix=0)
theorem RestC.bad(h:c≠0):RestC e (R' (I J c)):=⟨c,rfl,fun h0=>absurd h0 h⟩
theorem RestC.ok(h:eC e.su e.lo=0)(h':gK e.ix=0):RestC e (R' (I J c)):=⟨c,rfl,fun _=>⟨h,h'⟩⟩
theorem cA4(b:Nat)(s:EgS)(e:Eng)(w:World)(h:EgP w b s e)(hlv:aL e.lv=0):
  Calls prog 146 #[.pointer (Y ⟨b,0,O⟩)] w fun r w'=>RestC e r/\V' w w':=by
 have hn:=h.2.n9;have hx7:=h.2.n7;have hcm:=h.2.c8;obtain⟨_,_,_,_,x4,x5,_,_,_,_⟩:=h.all;have hbl:=h.lt;have HWl:=hid (Eq.refl (eC e.su e.lo));obtain⟨wc,HWc⟩:∃wc,Hid (eC e.su e.lo=wc):=⟨_,rfl⟩
 obtain⟨xc,HXc⟩:∃xc,Hid (gK e.ix=xc):=⟨_,rfl⟩
 obtain⟨rm,HRm⟩:∃rm,Hid (vK e=rm):=⟨_,rfl⟩
 go_enter func146,ntmps146
 go_wp2_with fail
 refine(bD9 b 4 s.sa s.oa s.sn s.on s.sc s.oc e.su e.lo _ x4 x5 h.2.su h.2.lo h.2.bsu h.2.blo h.2.n5 h.2.n6 h.2.c5 h.2.c6).mono ?_;rintro r1 w1⟨rfl,hB⟩;rw[HWc.out];have hbl:b<w1.heap.size:=(h.below hB).lt;clear x4 x5;cases hwc:(wc !=0);rotate_left
 .go_wp2;go_ret;exact⟨RestC.bad (by simpa using hwc),hB⟩
 .have HW:Hid (eC e.su e.lo=0):=by show _=_;rw[HWc.out];simpa using hwc
  go_wp2_with fail
  refine(yB b s e _ (h.below hB)).mono ?_;rintro r2 w2⟨rfl,hw2⟩;rw[HRm.out];replace hB:=hB.trans (hw2.mono hB.size);obtain⟨_,_,_,_,_,_,x6,_,_,_⟩:=(h.below hB).all;have hbl:b<w2.heap.size:=(h.below hB).lt;clear hw2;cases hrm:decide (rm<0);rotate_left
  .go_wp2;go_ret;exact⟨RestC.bad (by decide),hB⟩
  .go_wp2_with fail
   refine(cK1 s.xa s.xn s.xc e.ix _ (h.below hB).2.ix h.2.n7).mono ?_;rintro r3 w3⟨rfl,hw3⟩;rw[HXc.out];replace hB:=hB.trans (hw3.mono hB.size);have h':=h.below hB;clear x6;obtain⟨_,x1,_,_,_,_,x6,x7,_,_⟩:=h'.all;have hbl:b<w3.heap.size:=h'.lt;clear hw3;cases hxc:(xc !=0);rotate_left
   .go_wp2;go_ret;exact⟨RestC.bad (by simpa using hxc),hB⟩
   .have HX:Hid (gK e.ix=0):=by show _=_;rw[HXc.out];simpa using hxc
    obtain⟨bt,HBt⟩:∃bt,Hid (e.bt=bt):=⟨_,rfl⟩
    rw[HBt.out]at x7;clear HXc HWc HRm HWl;cases bt
    .by_cases h0:s.xn=0
     .have hp:¬0<s.xn:=by omega
      have hp':¬(0:Int)<(s.xn:Int):=by omega
      clear h0;go_wp2_with fail
      refine R0 (fun W'=>W'.cell? ⟨b,1,O⟩=Y (Z s.la s.ln s.lc)/\W'.cell? ⟨b,6,O⟩=Y (Z s.xa s.xn s.xc)/\W'.cell? ⟨b,7,O⟩=Y (X F')/\EgP W' b s e/\V' w W') (⟨x1,x6,x7,h'.below ((Aa _ _).drew),hB.drew⟩) (fun hH=>?_);refine R5 0 1 2 3 4 ?_;refine R9 5 (h:=R9 6 (h:=R9 7 (h:=R9 8 (h:=R9 9 (h:=J3 ?_)))));refine R9 10 (h:=R9 11 (h:=R9 12 (h:=R9 13 (h:=R9 14 (h:=J3 ?_)))));refine R9 15 (h:=R8 16 (h:=R8 17 (h:=R8 18 (h:=R8 19 (h:=J3 ?_)))));refine R5 20 21 22 23 24 ?_;refine R5 25 26 27 28 29 ?_;refine R4 30 31 32 33 ?_;refine R6 34 (fun K hK=>?_);go_simp;refine(wX b s e _ hH.2.2.2.1).mono ?_;rintro r34 w34⟨⟨cv,rfl⟩,hw34⟩;refine hK.out _ _ ?_ (fun hH=>?_)
      .obtain⟨x1,x6,x7,h',hB⟩:=hH;exact⟨keep_cell hw34 x1,keep_cell hw34 x6,keep_cell hw34 x7,h'.below hw34,hB.trans (hw34.mono hB.size)⟩
      clear hK K;refine R2 35 36 ?_;refine R7 ?_;obtain⟨x1,x6,x7,h',hB⟩:=hH;cases cv
      .simp only[El];go_wp2_with fail
       go_ret;exact⟨RestC.bad (by decide),hB⟩
      .simp only[Fm];go_wp2_with fail
       go_loopw [5] (fun i wr=>∃k:Nat,k<=s.an/\i=I J k/\V' w wr) (fun i _=>s.an-(intOf i).toNat)
       case atStart=>exact⟨0,Ad _,rfl,hB⟩
       case round=>
        obtain⟨k,hk,rfl,hB⟩:=hrel;have h':=h.below hB;obtain⟨_,_,_,_,_,_,_,_,_,x9⟩:=h'.all;have hbl:=h'.lt;by_cases hlt:k<s.an
        .obtain⟨g,off,an,nn,cn,haa,a0,a1,a2,a3,a4,a5,_,_⟩:=h'.2.ac.act hlt;have x9':=x9;rw[haa]at x9';have hgl:=aD a0;generalize aM e.ac k=t at*;obtain⟨at1,ak,aa,ab,av,aan⟩:=t;simp only at a0 a1 a2 a3 a4 a5;clear x9;obtain⟨iv,HIv⟩:∃iv,Hid (isT e at1=iv):=⟨_,rfl⟩
         cases iv
         .go_wp2_with fail
          refine(oP b s e at1 _ h').mono ?_;rintro r9 w9⟨rfl,hw9⟩;obtain rfl:=hw9.symm;rw[HIv.out];go_wp2;go_ret;exact⟨RestC.bad (by decide),hB⟩
         .go_wp2_with fail
          refine(oP b s e at1 _ h').mono ?_;rintro r9 w9⟨rfl,hw9⟩;obtain rfl:=hw9.symm;rw[HIv.out];go_wp2_with fail
          refine(oH ak aa ab av _).mono ?_;rintro r9 w9⟨rfl,hw9⟩;have hB:=hB.trans (hw9.mono hB.size);generalize aF ak aa ab av=oc;cases hoc:(oc !=0)
          .go_wp2;go_roundw;case rel=>exact⟨k+1,by omega,by go_num,hB⟩
           case measure=>simp[intOf];omega
          .go_wp2;go_ret;exact⟨RestC.bad (by decide),hB⟩
        .obtain rfl:k=s.an:=by omega
         go_wp2;go_ret;exact⟨RestC.ok HW.out HX.out,hB⟩
     .have hp:0<s.xn:=by omega
      have hp':(0:Int)<(s.xn:Int):=by omega
      clear h0;go_wp2_with fail
      refine R0 (fun W'=>W'.cell? ⟨b,1,O⟩=Y (Z s.la s.ln s.lc)/\W'.cell? ⟨b,6,O⟩=Y (Z s.xa s.xn s.xc)/\W'.cell? ⟨b,7,O⟩=Y (X F')/\EgP W' b s e/\V' w W') (⟨x1,x6,x7,h'.below ((Aa _ _).drew),hB.drew⟩) (fun hH=>?_);refine R5 0 1 2 3 4 ?_;refine R9 5 (h:=R9 6 (h:=R9 7 (h:=R9 8 (h:=R9 9 (h:=J3 ?_)))));refine R9 10 (h:=R9 11 (h:=R9 12 (h:=R9 13 (h:=R9 14 (h:=J3 ?_)))));refine R9 15 (h:=R8 16 (h:=R8 17 (h:=R8 18 (h:=R8 19 (h:=J3 ?_)))));refine R5 20 21 22 23 24 ?_;refine R5 25 26 27 28 29 ?_;refine R8 30 (h:=R8 31 (h:=R8 32 (h:=R9 33 (h:=R9 34 (h:=J3 ?_)))));refine R9 35 (h:=R8 36 (h:=J3 ?_));refine R7 ?_;obtain⟨x1,x6,x7,h',hB⟩:=hH;go_wp2_with fail
      go_ret;exact⟨RestC.bad (by decide),hB⟩
    .obtain⟨sm,HSm⟩:∃sm,Hid (lY e.ix (rD e.lv)=sm):=⟨_,rfl⟩
     cases sm
     .go_wp2_with fail
      refine R0 (fun W'=>W'.cell? ⟨b,1,O⟩=Y (Z s.la s.ln s.lc)/\W'.cell? ⟨b,6,O⟩=Y (Z s.xa s.xn s.xc)/\W'.cell? ⟨b,7,O⟩=Y (X A')/\EgP W' b s e/\V' w W') (⟨x1,x6,x7,h'.below ((Aa _ _).drew),hB.drew⟩) (fun hH=>?_);refine R5 0 1 2 3 4 ?_;refine R5 5 6 7 8 9 ?_;refine R3 10 11 12 ?_;refine R6 13 (fun K hK=>?_);go_simp;refine(aN2 s.la s.ln s.lc e.lv _ hH.2.2.2.1.2.lv h.2.n2 hlv).mono ?_;rintro r13 w13⟨g13,m13,c13,rfl,hm13,o13,hw13⟩;refine hK.out _ _ ?_ (fun hH=>?_)
      .obtain⟨x1,x6,x7,h',hB⟩:=hH;exact⟨keep_cell hw13 x1,keep_cell hw13 x6,keep_cell hw13 x7,h'.below hw13,hB.trans (hw13.mono hB.size)⟩
      clear hK K;refine R6 14 (fun K hK=>?_);go_simp;refine(vO s.xa _ s.xn s.xc _ _ e.ix (rD e.lv) _ hH.2.2.2.1.2.ix (aO o13) h.2.n7 (by omega)).mono ?_;rintro r14 w14⟨rfl,hw14⟩;rw[HSm.out];refine hK.out _ _ ?_ (fun hH=>?_)
      .obtain⟨x1,x6,x7,h',hB⟩:=hH;exact⟨keep_cell hw14 x1,keep_cell hw14 x6,keep_cell hw14 x7,h'.below hw14,hB.trans (hw14.mono hB.size)⟩
      clear hK K;refine R8 15 (h:=R8 16 (h:=R8 17 (h:=R9 18 (h:=R9 19 (h:=J3 ?_)))));refine R9 20 (h:=R9 21 (h:=R9 22 (h:=R9 23 (h:=R9 24 (h:=J3 ?_)))));refine R9 25 (h:=R9 26 (h:=R9 27 (h:=R9 28 (h:=R9 29 (h:=J3 ?_)))));refine R9 30 (h:=R8 31 (h:=R8 32 (h:=R9 33 (h:=R9 34 (h:=J3 ?_)))));refine R9 35 (h:=R8 36 (h:=J3 ?_));refine R7 ?_;obtain⟨x1,x6,x7,h',hB⟩:=hH;go_wp2_with fail
      go_ret;exact⟨RestC.bad (by decide),hB⟩
     .go_wp2_with fail
      refine R0 (fun W'=>W'.cell? ⟨b,1,O⟩=Y (Z s.la s.ln s.lc)/\W'.cell? ⟨b,6,O⟩=Y (Z s.xa s.xn s.xc)/\W'.cell? ⟨b,7,O⟩=Y (X A')/\EgP W' b s e/\V' w W') (⟨x1,x6,x7,h'.below ((Aa _ _).drew),hB.drew⟩) (fun hH=>?_);refine R5 0 1 2 3 4 ?_;refine R5 5 6 7 8 9 ?_;refine R3 10 11 12 ?_;refine R6 13 (fun K hK=>?_);go_simp;refine(aN2 s.la s.ln s.lc e.lv _ hH.2.2.2.1.2.lv h.2.n2 hlv).mono ?_;rintro r13 w13⟨g13,m13,c13,rfl,hm13,o13,hw13⟩;refine hK.out _ _ ?_ (fun hH=>?_)
      .obtain⟨x1,x6,x7,h',hB⟩:=hH;exact⟨keep_cell hw13 x1,keep_cell hw13 x6,keep_cell hw13 x7,h'.below hw13,hB.trans (hw13.mono hB.size)⟩
      clear hK K;refine R6 14 (fun K hK=>?_);go_simp;refine(vO s.xa _ s.xn s.xc _ _ e.ix (rD e.lv) _ hH.2.2.2.1.2.ix (aO o13) h.2.n7 (by omega)).mono ?_;rintro r14 w14⟨rfl,hw14⟩;rw[HSm.out];refine hK.out _ _ ?_ (fun hH=>?_)
      .obtain⟨x1,x6,x7,h',hB⟩:=hH;exact⟨keep_cell hw14 x1,keep_cell hw14 x6,keep_cell hw14 x7,h'.below hw14,hB.trans (hw14.mono hB.size)⟩
      clear hK K;refine R5 15 16 17 18 19 ?_;refine R8 20 (h:=R8 21 (h:=R8 22 (h:=R8 23 (h:=R9 24 (h:=J3 ?_)))));refine R9 25 (h:=R9 26 (h:=R9 27 (h:=R9 28 (h:=R9 29 (h:=J3 ?_)))));refine R4 30 31 32 33 ?_;refine R6 34 (fun K hK=>?_);go_simp;refine(wX b s e _ hH.2.2.2.1).mono ?_;rintro r34 w34⟨⟨cv,rfl⟩,hw34⟩;refine hK.out _ _ ?_ (fun hH=>?_)
      .obtain⟨x1,x6,x7,h',hB⟩:=hH;exact⟨keep_cell hw34 x1,keep_cell hw34 x6,keep_cell hw34 x7,h'.below hw34,hB.trans (hw34.mono hB.size)⟩
      clear hK K;refine R2 35 36 ?_;refine R7 ?_;obtain⟨x1,x6,x7,h',hB⟩:=hH;cases cv
      .simp only[El];go_wp2_with fail
       go_ret;exact⟨RestC.bad (by decide),hB⟩
      .simp only[Fm];go_wp2_with fail
       go_loopw [5] (fun i wr=>∃k:Nat,k<=s.an/\i=I J k/\V' w wr) (fun i _=>s.an-(intOf i).toNat)
       case atStart=>exact⟨0,Ad _,rfl,hB⟩
       case round=>
        obtain⟨k,hk,rfl,hB⟩:=hrel;have h':=h.below hB;obtain⟨_,_,_,_,_,_,_,_,_,x9⟩:=h'.all;have hbl:=h'.lt;by_cases hlt:k<s.an
        .obtain⟨g,off,an,nn,cn,haa,a0,a1,a2,a3,a4,a5,_,_⟩:=h'.2.ac.act hlt;have x9':=x9;rw[haa]at x9';have hgl:=aD a0;generalize aM e.ac k=t at*;obtain⟨at1,ak,aa,ab,av,aan⟩:=t;simp only at a0 a1 a2 a3 a4 a5;clear x9;obtain⟨iv,HIv⟩:∃iv,Hid (isT e at1=iv):=⟨_,rfl⟩
         cases iv
         .go_wp2_with fail
          refine(oP b s e at1 _ h').mono ?_;rintro r9 w9⟨rfl,hw9⟩;obtain rfl:=hw9.symm;rw[HIv.out];go_wp2;go_ret;exact⟨RestC.bad (by decide),hB⟩
         .go_wp2_with fail
          refine(oP b s e at1 _ h').mono ?_;rintro r9 w9⟨rfl,hw9⟩;obtain rfl:=hw9.symm;rw[HIv.out];go_wp2_with fail
          refine(oH ak aa ab av _).mono ?_;rintro r9 w9⟨rfl,hw9⟩;have hB:=hB.trans (hw9.mono hB.size);generalize aF ak aa ab av=oc;cases hoc:(oc !=0)
          .go_wp2;go_roundw;case rel=>exact⟨k+1,by omega,by go_num,hB⟩
           case measure=>simp[intOf];omega
          .go_wp2;go_ret;exact⟨RestC.bad (by decide),hB⟩
        .obtain rfl:k=s.an:=by omega
         go_wp2;go_ret;exact⟨RestC.ok HW.out HX.out,hB⟩
structure Ch.Good(e:Ch.Eng):Prop where
 lv:aL e.lv=0
 lk:aT e.lk=0
 tn:e.tx.length<=20
 an:e.ac.length<=220
 tk:∀k,k<e.tx.length->TxFine e.lk k (aS e.tx k)
 kn:KnownL e e.lk.length
 wal:eC e.su e.lo=0
 ix:gK e.ix=0
theorem Ch.Good.un(h:Ch.Good e):∀k,k<e.tx.length->cY (aS e.tx k).un=0:=fun k hk=>(h.tk k hk).un
def FaultC(e:Eng)(r:Ending):Prop:=∃c,r=R' (I J c)/\(c=0->Ch.Good e)
theorem FaultC.bad(h:c≠0):FaultC e (R' (I J c)):=⟨c,rfl,fun h0=>absurd h0 h⟩
theorem aD2(b:Nat)(s:EgS)(e:Eng)(w:World)(h:EgP w b s e):
  Calls prog 104 #[.pointer (Y ⟨b,0,O⟩)] w fun r w'=>FaultC e r/\V' w w':=by
 have hn:=h.2.n4;have hn9:=h.2.n9;have HTl:=h.2.tx.len;have HAl:=h.2.ac.len;obtain⟨x0,_,_,_,_,_,_,_,_,_⟩:=h.all;have hbl:=h.lt;obtain⟨bc,HBc⟩:∃bc,Hid (cW e.base=bc):=⟨_,rfl⟩
 obtain⟨lc,HLc⟩:∃lc,Hid (aL e.lv=lc):=⟨_,rfl⟩
 obtain⟨kc,HKc⟩:∃kc,Hid (aT e.lk=kc):=⟨_,rfl⟩
 go_enter func104,ntmps104
 go_wp2_with fail
 refine(tK s.ba s.bn s.bc e.base _ h.2.base h.2.n1).mono ?_;rintro r1 w1⟨rfl,hB⟩;rw[HBc.out];clear x0;obtain⟨_,x1,_,_,_,_,_,_,_,_⟩:=(h.below hB).all;have hbl:b<w1.heap.size:=(h.below hB).lt;cases hbc:(bc !=0);rotate_left
 .go_wp2;go_ret;exact⟨FaultC.bad (by simpa using hbc),hB⟩
 .clear HBc;go_wp2_with fail
  refine(cK2 s.la s.ln s.lc e.lv _ (h.below hB).2.lv h.2.n2).mono ?_;rintro r2 w2⟨rfl,hw2⟩;rw[HLc.out];replace hB:=hB.trans (hw2.mono hB.size);clear x1 hw2;obtain⟨_,_,x2,_,_,_,_,_,_,_⟩:=(h.below hB).all;have hbl:b<w2.heap.size:=(h.below hB).lt;cases hlc:(lc !=0);rotate_left
  .go_wp2;go_ret;exact⟨FaultC.bad (by simpa using hlc),hB⟩
  .have HL:Hid (aL e.lv=0):=by show _=_;rw[HLc.out];simpa using hlc
   clear HLc;go_wp2_with fail
   refine(bP7 s.ka s.kn s.kc e.lk _ (h.below hB).2.lk h.2.n3).mono ?_;rintro r3 w3⟨rfl,hw3⟩;rw[HKc.out];replace hB:=hB.trans (hw3.mono hB.size);clear x2 hw3;obtain⟨_,_,_,x3,_,_,_,_,_,x9⟩:=(h.below hB).all;have hbl:b<w3.heap.size:=(h.below hB).lt;cases hkc:(kc !=0);rotate_left
   .go_wp2;go_ret;exact⟨FaultC.bad (by simpa using hkc),hB⟩
   .have HK:Hid (aT e.lk=0):=by show _=_;rw[HKc.out];simpa using hkc
    clear HKc;by_cases ht:s.tn<=20;rotate_left
    .have ht':(20:Int)<(s.tn:Int):=by omega
     go_wp2;go_ret;exact⟨FaultC.bad (by decide),hB⟩
    .have ht':¬(20:Int)<(s.tn:Int):=by omega
     by_cases hac:s.an<=220;rotate_left
     .have hac':(220:Int)<(s.an:Int):=by omega
      go_wp2;go_ret;exact⟨FaultC.bad (by decide),hB⟩
     .have hac':¬(220:Int)<(s.an:Int):=by omega
      go_wp2_with fail
      go_loopw [6] (fun i wr=>∃k:Nat,k<=s.tn/\i=I J k/\Hid (∀j,j<k->TxFine e.lk j (aS e.tx j))/\V' w wr) (fun i _=>s.tn-(intOf i).toNat)
      case atStart=>exact⟨0,Ad _,rfl,hid (fun j hj=>by omega),hB⟩
      case round=>
       obtain⟨k,hk,rfl,HU,hB⟩:=hrel;have h':=h.below hB;obtain⟨_,_,_,x3,_,_,_,_,_,_⟩:=h'.all;have hbl:=h'.lt;by_cases hlt:k<s.tn
       .go_wp2_with fail
        refine(cU4 b s e k _ h' hlt).mono ?_;rintro r9 w9⟨⟨tc,rfl,HTc⟩,hw9⟩;replace hB:=hB.trans (hw9.mono hB.size);have HT:=hid HTc;clear HTc hw9;cases htc:(tc !=0)
        .have HT':Hid (TxFine e.lk k (aS e.tx k)):=HT.out (by simpa using htc);clear HT;go_wp2;go_roundw;case rel=>exact⟨k+1,by omega,by go_num,hid (fun j hj=>by rcases Nat.lt_or_eq_of_le (Nat.le_of_lt_succ hj)with h1|rfl;exact HU.out j h1;exact HT'.out),hB⟩
         case measure=>simp[intOf];omega
        .go_wp2;go_ret;exact⟨FaultC.bad (by simpa using htc),hB⟩
       .obtain rfl:k=s.tn:=by omega
        go_wp2_with fail
        refine(bM6 b s e _ h').mono ?_;rintro r9 w9⟨⟨v,rfl,hv⟩,hw9⟩;obtain rfl:=hw9.symm;have HV:=hid hv;clear hv;cases v
        .go_wp2;go_ret;exact⟨FaultC.bad (by decide),hB⟩
        .go_wp2_with fail
         refine(cA4 b s e _ h' HL.out).mono ?_;rintro r9 w9⟨⟨rc,rfl,hrc⟩,hw9⟩;have HR:=hid hrc;clear hrc;replace hB:=hB.trans (hw9.mono hB.size);go_wp2;go_ret;exact⟨⟨rc,rfl,fun h0=>⟨HL.out,HK.out,by rw[<-HTl.out];exact ht,by rw[<-HAl.out];exact hac,by rw[<-HTl.out];exact HU.out,HV.out (by simp),(HR.out h0).1,(HR.out h0).2⟩⟩,hB⟩
def tnD(j:Nat):Nat:=match j with|4=>12|11=>19|_=>20
def tnE:List Nat:=[4,11,12]
def tnP(j:Nat):List Nat:=match j with|12=>[4,11]|_=>[]
theorem bH8:(tnE.all fun i=>tnE.all fun j=>tnD i !=tnD j||i==j)=A':=by kernel_rfl
theorem cS5:tnE.Nodup:=by decide
def TnR(s:EgS)(e:Eng)(key:Int)(j:Nat)(v:Value)(T:Nat->Nat)(w:World):Prop:=match j with
 |4=>v=Z s.xa s.xn s.xc
 |11=>v=U #[I J (Ch.bf key (Ch.has e.lv key)).k,X (Ch.bf key (Ch.has e.lv key)).h,I J (Ch.bf key (Ch.has e.lv key)).v]
 |_=>∃a n c ix,v=Z a n c/\n<=s.xn+1/\CellsAt (gU (Ice T) w) a (n*2) (hcells ix)
theorem TnR.mono(s:EgS)(e:Eng)(key:Int):∀j v T T' w w',TnR s e key j v T w->(∀k,Kp k T T' w w')->w.heap.size<=w'.heap.size->TnR s e key j v T' w':=by
 intro j v T T' w w' h hk _;unfold TnR at*;split at h
 .exact h
 .exact h
 .obtain⟨a,n,c,ix,h1,h2,h3⟩:=h;exact⟨a,n,c,ix,h1,h2,h3.sub (eE (hk 0))⟩
def dQ3(T:Nat->Nat)(w:World)(b o:Nat)(cs:Array Value)(t:TypeId)(s:EgS)(e:Eng)(r:Ending)(w':World):Prop:=
 r=R' (.tuple #[])/\∃T' cs' a n c ix,EgX w' T' b o cs' t {s with xa:=a,xn:=n,xc:=c} {e with ix:=ix}/\n<=s.xn+1/\Stp T T' w w' o cs cs'
theorem aK7(key:Int)(w:World)(T:Nat->Nat)(b o:Nat)(cs:Array Value)(t:TypeId)(s:EgS)(e:Eng)(h:EgX w T b o cs t s e)(hlv:aL e.lv=0)(hn:s.xn<=1048575):
  Calls prog 217 #[.pointer (Y ⟨b,o,O⟩),I J key] w (dQ3 T w b o cs t s e):=by
 have HL:=h.own.lv.len;have hne:∀k,k<s.ln->(e.lv.getD k []).length≠0:=fun k hk=>(fY hlv k (by have:=HL.out;omega)).1;have hbl:=h.lt;obtain⟨x0,x1,x2,x3,x4,x5,x6,x7,x8,x9⟩:=h.all;obtain⟨bt,HBt⟩:∃bt,Hid (e.bt=bt):=⟨_,rfl⟩
 rw[HBt.out]at x7;go_enter func217,ntmps217
 cases bt
 .go_wp2;exact Er (Ek rfl _ _ _) rfl ⟨rfl,T,cs,s.xa,s.xn,s.xc,e.ix,h,by omega,Stp.refl _ _ _ _⟩
 .go_wp2_with fail
  refine R0 (fun W'=>W'.cell? ⟨b,o+1,O⟩=Y (Z s.la s.ln s.lc)) (x1) (fun hH=>?_);refine R5 0 1 2 3 5 ?_;refine R5 6 7 8 9 10 ?_;refine sF (d:=tnD) (E:=tnE) (L1:=#[A',A',A',A',A',A',A',A',A',A',A',A',A',F',F',F']) (fuel1:=3) (pre:=tnP) (R:=TnR s e key) (Bs:=fun T' W=>EgX W T' b o cs t s e/\Stp T T' w W o cs cs) bH8 cS5 (by kernel_rfl) (by kernel_rfl) (by kernel_rfl) (by kernel_rfl) (by kernel_rfl) (by kernel_rfl) (by kernel_rfl) (TnR.mono s e key) ?bs ?step ?last T ?init;case init=>exact⟨⟨h.own.kept (fun k _ _=>jS),h.box,h.cell,h.tag⟩,⟨rfl,rfl,rfl,z',jS,jS,fun _ _=>rfl,rfl⟩⟩
  case bs=>intro T' W hB;exact hB.1.all.2.1
  case step=>
   intro i hi vs T' W hB hp;unfold tnE at hi;simp only[Am,Cu,Eh]at hi;rcases hi with rfl|rfl|rfl
   .obtain⟨_,_,_,_,_,_,y6,_,_,_⟩:=hB.1.all;refine kP ⟨Y 12,.load 66 (.tmp 11),_,_,_,O⟩ (Z s.xa s.xn s.xc) (by rfl) bH8 cS5 (by kernel_rfl) rfl ?_ ?_
    .intro ev h1 h2;have s1:ev (.tmp 11)= .pointer (Y ⟨b,o+6,O⟩):=(h2 11 (by kernel_rfl)).trans rfl;clear h1 h2;go_simp
    .exact⟨_,T',rfl,rfl,fun k=>Kp.refl k T' W,z',hB⟩
   .refine Dq rfl (fun K hK=>?_);refine qP (xs:=#[.tmp 17,.tmp 18]) (vs:=#[Z s.la s.ln s.lc,I J key]) rfl rfl ?_ (by go_simp) ?_
    .exact dP1 ((eG tnD vs 17 tnE _ (by kernel_rfl)).trans rfl) ((eG tnD vs 18 tnE _ (by kernel_rfl)).trans rfl)
    .refine(pK s.la s.ln s.lc key e.lv _ (hB.1.own.lv.sub fK) hB.1.own.n2 hne).mono ?_;rintro r W2⟨rfl,hb⟩;exact⟨_,rfl,hK _ _ ⟨_,mrk T' W.heap.size 0,rfl,rfl,fun k=>aY hb T' 0 k,hb.size,hB.1.below hb 0,hB.2.trans (Stp.below o cs hb 0)⟩⟩
   .have e4:vs 4=Z s.xa s.xn s.xc:=hp 4 (by simp[tnP]);have e11:vs 11=U #[I J (Ch.bf key (Ch.has e.lv key)).k,X (Ch.bf key (Ch.has e.lv key)).h,I J (Ch.bf key (Ch.has e.lv key)).v]:=hp 11 (by simp[tnP]);refine Dq rfl (fun K hK=>?_);refine qP (xs:=#[.tmp 12,.tmp 13,.tmp 19]) (vs:=#[Z s.xa s.xn s.xc,I J key,U #[I J (Ch.bf key (Ch.has e.lv key)).k,X (Ch.bf key (Ch.has e.lv key)).h,I J (Ch.bf key (Ch.has e.lv key)).v]]) rfl rfl ?_ (by go_simp) ?_
    .exact dQ6 ((mX tnD vs 4 tnE _ bH8 cS5 (by decide) (by kernel_rfl)).trans e4) ((eG tnD vs 13 tnE _ (by kernel_rfl)).trans rfl) ((mX tnD vs 11 tnE _ bH8 cS5 (by decide) (by kernel_rfl)).trans e11)
    .refine(cH2 s.xa s.xn s.xc key _ _ _ e.ix _ (hB.1.own.ix.sub fK) hn).mono ?_;rintro r W2⟨g',m,c',rfl,hm,ho,hb⟩;exact⟨_,rfl,hK _ _ ⟨_,mrk T' W.heap.size 0,rfl,⟨_,m,c',_,rfl,hm,lH ho (jR T' W.heap.size)⟩,fun k=>aY hb T' 0 k,hb.size,hB.1.below hb 0,hB.2.trans (Stp.below o cs hb 0)⟩⟩
  case last=>
   intro vs T' W hB hR;have e4:vs 4=Z s.xa s.xn s.xc:=hR 4 (by simp[tnE]);obtain⟨a,n,c,ix,e12,hm,hc⟩:=hR 12 (by simp[tnE]);clear hR;obtain⟨hX,hS⟩:=hB;dsimp only[eB,tnE,List.foldl];simp only[Act.put,tnD,Bh,List.set_cons_zero,List.set_cons_succ];rw[e4,e12];have hset:=EgX.set (i:=6) (v:=Z a n c) hX.box hX.cell hX.tag (hX.own.newIx hc (by omega)) (by decide) rfl;obtain⟨_,y1,_,_,_,_,y6,_,_,_⟩:=hX.all;have f6:=hX.frz (o+6);have hH:W.cell? ⟨b,o+1,O⟩=Y (Z s.la s.ln s.lc):=y1;refine R2 13 14 ?_;refine R6 15 (fun K hK=>?_);go_simp;refine hK.out _ _ ?_ (fun hH=>?_)
   .exact hset.1.all.2.1
   clear hK K;refine R7 ?_;go_wp2;exact Er (Ek rfl _ _ _) rfl ⟨rfl,T',_,a,n,c,ix,hset.1,hm,hS.trans hset.2⟩
end Go.Proofs.YtpbbokalojdooaaGreat
