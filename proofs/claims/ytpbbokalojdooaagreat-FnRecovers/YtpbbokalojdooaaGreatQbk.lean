import Derived.Test.YtpbbokalojdooaaGreatQbj
namespace Go.Proofs.YtpbbokalojdooaaGreat
open Go.RowKit Ch Go.Proofs.Tryz
set_option linter.unusedSimpArgs false
set_option linter.unusedVariables false
set_option maxRecDepth 20000
set_option maxHeartbeats 8000000
open Value renaming int->I,slice->Z,bool->X,agg->U
open IntKind renaming i64->J
open Option renaming none->O,some->Y
open Obj renaming cells->M
open Ending renaming returned->R'
open Bool renaming true->A',false->F'
variable {cs:Array Value} {s s':EgS} {e e':Eng} {b o:Nat} {T T':Nat->Nat} {row:Option Nat} {t:TypeId} {v:Value} {W w w' w0:World}
theorem cP6(w:World)(r s:Int)(t:TypeId):CellsAt (w.alloc (M #[I J r,I J s] t)) (Y ⟨w.heap.size,0,O⟩) (2*1) (icells [r,s]):=by refine⟨rfl,fun _=>⟨_,_,rfl,fun i hi=>?_⟩⟩;rw[cell_of_row _ _ _ _ _ _ (aO (w:=w) (o:=M #[I J r,I J s] t) rfl),Nat.zero_add];simp[icells]
def AnsQ(w:World)(r:Ending)(w':World):Prop:=(∃a n c zs,r=R' (Z a n c)/\n<=1048576/\w'.ownsRow w.heap.size 2 1 (Z a n c) n (icells zs))/\Below w.heap.size w w'
def anD(j:Nat):Nat:=match j with|6=>20|_=>6
def anE:List Nat:=[6,7]
def anP(_:Nat):List Nat:=[]
theorem bT6:(anE.all fun i=>anE.all fun j=>anD i !=anD j||i==j)=A':=by kernel_rfl
theorem cT5:anE.Nodup:=by decide
def anR(H:Nat)(wk:Int)(wh:Bool)(wv:Int)(j:Nat)(v:Value)(T:Nat->Nat)(w:World):Prop:=match j with
 |6=>v=U #[I J wk,X wh,I J wv]
 |_=>∃g,v= .pointer (Y ⟨g,0,O⟩)/\w.heap[g]? =Y (M #[I J 0,X F',I J 0] 263 (0,0))/\T g=8/\H<=g
theorem anR.mono(H:Nat)(wk:Int)(wh:Bool)(wv:Int):∀j v T T' w w',anR H wk wh wv j v T w->(∀k,Kp k T T' w w')->w.heap.size<=w'.heap.size->anR H wk wh wv j v T' w':=by
 intro j v T T' w w' h hk _;unfold anR at*;split at h
 .exact h
 .obtain⟨g,h1,h2,h3,h6⟩:=h;obtain⟨h4,h5⟩:=aY h2 h3 (hk 8);exact⟨g,h1,h4,h5,h6⟩
theorem aZ4(k p q v:Int)(w:World)(T:Nat->Nat)(b o:Nat)(cs:Array Value)(t:TypeId)(s:EgS)(e:Eng)(h:EgX w T b o cs t s e)(hlv:aL e.lv=0):
  Calls prog 187 #[.pointer (Y ⟨b,o,O⟩),U #[I J k,I J p,I J q,I J v]] w (AnsQ w):=by
 have HL:=h.own.lv.len;have hne:∀k,k<s.ln->(e.lv.getD k []).length≠0:=fun k hk=>(fR hlv k (by have:=HL.out;omega)).1;obtain⟨_,x1,_,_,_,_,x6,_,_,_⟩:=h.all;have hbl:=h.lt;have n7:=h.own.n7;have hLv:=h.own.lv.sub fI;have hIx:=h.own.ix.sub fI;have kA:=f' w (M #[I J k,I J p,I J q,I J v] 54);have hsA:(w.alloc (M #[I J k,I J p,I J q,I J v] 54)).heap.size=w.heap.size+1:=by simp
 have oE:=nL (w.alloc (M #[I J k,I J p,I J q,I J v] 54)) 2 1;have kE:Below w.heap.size w ((w.alloc (M #[I J k,I J p,I J q,I J v] 54)).alloc (M #[] 2)):=kA.alloc (by omega) _;have o0:((w.alloc (M #[I J k,I J p,I J q,I J v] 54)).alloc (M #[] 2)).heap[w.heap.size]? =Y (M #[I J k,I J p,I J q,I J v] 54 (0,0)):=(dJ (by simp)).trans (aO rfl);rw[hsA]at oE;have oE':=aP oE (show w.heap.size<=w.heap.size+1 by omega);have SB:=fun W hW=>oS s.la s.ln s.lc p e.lv W hW h.own.n2 hne;generalize Ch.bf p (Ch.has e.lv p)=bf at SB;obtain⟨wk,wh,wv⟩:=bf;simp only at SB;have SC:=fun W hW=>bD9 s.la s.ln s.lc p q e.lv W hW h.own.n2 hne;have SL:=fun W hW=>bZ3 s.xa s.xn s.xc v e.ix W hW n7;have hrs:(oH p q e.lv.flatten).length<=1000:=by have h1:=nV hlv;have h2:=List.length_filter_le (wV p q) e.lv.flatten;rw[List.length_flatten]at h2;unfold aW at h1;unfold oH;omega
 generalize oH p q e.lv.flatten=rs at SC hrs;generalize qS e.ix v=zl at SL;clear hlv HL hne n7 h;go_enter func187,ntmps187
 go_upto_region 2 with fail
 generalize hW2:(w.alloc (M #[I J k,I J p,I J q,I J v] 54)).alloc (M #[] 2)=W2 at*;clear hW2;have x1:=aC kE x1;have x6:=aC kE x6;have hLv:=hLv.below kE;have hIx:=hIx.below kE;obtain⟨c0,c1,c2,c3⟩:=(jJ o0).1;have hbl2:=aD x1;have hol:=aD c0;clear oE kA hsA hbl;by_cases h1:k=1
 .subst h1;go_upto_region 4 with fail
  refine R0 (fun W'=>W'.cell? ⟨b,o+1,O⟩=Y (Z s.la s.ln s.lc)/\W'.cell? ⟨w.heap.size,1,O⟩=Y (I J p)) (⟨x1,c1⟩) (fun hH=>?_);refine R5 0 1 2 3 4 ?_;refine R1 5 ?_;refine vQ (d:=anD) (E:=anE) (z:=8) (pre:=anP) (R:=anR W2.heap.size wk wh wv) (Bs:=fun _ W=>Below W2.heap.size W2 W) bT6 cT5 (by kernel_rfl) (by kernel_rfl) (by kernel_rfl) (by kernel_rfl) (by kernel_rfl) (by kernel_rfl) (by kernel_rfl) (Nat.le_of_ble_eq_true (by kernel_rfl)) (anR.mono W2.heap.size wk wh wv) ?bs ?step ?last (fun _=>0) ?init;case init=>exact u'.drew
  case bs=>intro T' W hB;exact⟨aC hB x1,aC hB c1⟩
  case step=>
   intro i hi vs T' W hB hp;unfold anE at hi;simp only[List.mem_cons,List.not_mem_nil,or_false]at hi;rcases hi with rfl|rfl
   .refine wpOp_step rfl (fun K hK=>?_);refine qB (xs:=#[.tmp 17,.tmp 19]) (vs:=#[Z s.la s.ln s.lc,I J p]) rfl rfl ?_ (by go_simp) ?_
    .exact dG6 ((dY anD vs 17 anE _ (by kernel_rfl)).trans rfl) ((dY anD vs 19 anE _ (by kernel_rfl)).trans rfl)
    .refine(SB _ (hLv.below hB)).mono ?_;rintro r W3⟨rfl,hb⟩;exact⟨_,rfl,hK _ _ ⟨_,mrk T' W.heap.size 0,rfl,rfl,fun k=>bJ hb T' 0 k,hb.size,hB.trans (hb.mono hB.size)⟩⟩
   .have hb:=f' W (M #[I J 0,X F',I J 0] 263);refine vZ ⟨Y 6,.alloc 263,_,_,_,O⟩ (.pointer (Y ⟨W.heap.size,0,O⟩)) (W.alloc (M #[I J 0,X F',I J 0] 263)) (by rfl) bT6 cT5 (by kernel_rfl) rfl ?_ ?_
    .intro ev h1 h2;clear h1 h2;go_simp
    .exact⟨_,mrk T' W.heap.size 8,rfl,⟨W.heap.size,rfl,aO rfl,by unfold mrk;rw[if_neg (by omega)],hB.size⟩,fun k'=>bJ hb T' 8 k',hb.size,hB.trans (hb.mono hB.size)⟩
  case last=>
   intro vs T' W hB hR K0 hK0;have e1:=hR 6 (by simp[anE]);obtain⟨g,e2,hg,hTg,hgw⟩:=hR 7 (by simp[anE]);clear hR;have q0:W.cell? ⟨g,0,O⟩=_:=cell_of_row _ g 0 _ _ _ hg;have f0:=frozen_of_row _ g 0 _ _ hg;have q1:W.cell? ⟨g,1,O⟩=_:=cell_of_row _ g 1 _ _ _ hg;have f1:=frozen_of_row _ g 1 _ _ hg;have q2:W.cell? ⟨g,2,O⟩=_:=cell_of_row _ g 2 _ _ _ hg;have f2:=frozen_of_row _ g 2 _ _ hg;have h0:=heap_setCell_same W g 0 _ _ (I J wk) hg;have h1:=heap_setCell_same _ g 1 _ _ (X wh) h0;have h2:=heap_setCell_same _ g 2 _ _ (I J wv) h1;have hgr:W.grownBy (((W.setCell ⟨g,0,O⟩ (I J wk)).setCell ⟨g,1,O⟩ (X wh)).setCell ⟨g,2,O⟩ (I J wv)) (Y g):=cN (cN nI);refine tI ⟨O,.store 263 (.tmp 6) (.tmp 20),_,_,_,O⟩ (((W.setCell ⟨g,0,O⟩ (I J wk)).setCell ⟨g,1,O⟩ (X wh)).setCell ⟨g,2,O⟩ (I J wv)) (by rfl) bT6 cT5 (by kernel_rfl) rfl ?_ ?_
   .intro ev h1 h2;have s1:ev (.tmp 6)=_:=(h1 7 (by kernel_rfl)).trans e2;have s2:ev (.tmp 20)=_:=(h1 6 (by kernel_rfl)).trans e1;clear h1 h2;go_simp
   .have hbx:(((W.setCell ⟨g,0,O⟩ (I J wk)).setCell ⟨g,1,O⟩ (X wh)).setCell ⟨g,2,O⟩ (I J wv)).heap[g]? =Y (M #[I J wk,X wh,I J wv] 263 (0,0)):=h2;have hB4:Below W2.heap.size W2 (((W.setCell ⟨g,0,O⟩ (I J wk)).setCell ⟨g,1,O⟩ (X wh)).setCell ⟨g,2,O⟩ (I J wv)):=cJ hB hgr (fun k hk=>by cases hk;exact hgw) hB.size;generalize(((W.setCell ⟨g,0,O⟩ (I J wk)).setCell ⟨g,1,O⟩ (X wh)).setCell ⟨g,2,O⟩ (I J wv))=W4 at*;clear hgr h0 q0 f0 h1 q1 f1 h2 q2 f2 hg;refine hK0 _ _ ⟨aC hB4 x1,aC hB4 c1⟩ (NoPanic.normal ?_);dsimp only[dV,anE,List.foldl];simp only[Act.put,anD,List.setIfInBounds_toArray,List.set_cons_zero,List.set_cons_succ];rw[e1,e2];clear e1 e2 vs hK0 K0;obtain⟨g0,g1,g2⟩:=sI hbx;have hgl:=aD g0;have kB:=kE.trans (hB4.mono kE.size);have oB:=aF oE' hB4;have hbz:=kB.size;have hbk:=f' W4 (M #[I J wv] 2);have hN:=jP W4 wv 2;have oB':=aF oB hbk;have hzz:w.heap.size<=(W4.alloc (M #[I J wv] 2)).heap.size:=by simp;omega
    go_upto_region 5 with fail
    cases wh
    .go_wp2;go_ret;exact⟨⟨_,_,_,[],rfl,by omega,oB⟩,kB⟩
    .go_wp2_with(at_builtin;refine aD8 uG (.tmp 23) (.tmp 26) ?_ ?_ w.heap.size (Z (Y ⟨w.heap.size+1,0,O⟩) 0 0) 0 [] (Y ⟨W4.heap.size,0,O⟩) 1 1 (icells [wv]) ?_ ?_ oB' hN (dN _) (by omega) hzz ?_;exact rfl;exact rfl;exact rfl;exact rfl;intro a9 c9 W9 o9 gr9 at9)
     go_ret;exact⟨⟨_,_,_,[wv],rfl,by omega,o9⟩,cJ (kB.trans (hbk.mono hbz)) gr9 (fun g hg=>(aG oB g hg).1) hzz⟩
 have e1:(k==1)=F':=by simpa using h1
 by_cases h4:k=4
 .subst h4;go_upto_region 8 with fail
  refine R0 (fun W'=>W'.cell? ⟨b,o+1,O⟩=Y (Z s.la s.ln s.lc)/\W'.cell? ⟨w.heap.size,1,O⟩=Y (I J p)/\W'.cell? ⟨w.heap.size,2,O⟩=Y (I J q)) (⟨x1,c1,c2⟩) (fun hH=>?_);refine R5 0 1 2 3 4 ?_;refine R3 5 6 7 ?_;refine R6 8 (fun K hK=>?_);go_simp;refine(SC _ (hLv.below (u'.drew))).mono ?_;rintro r W3⟨ra,rn,rc,rfl,hrn,oR,hb3⟩;replace hb3:Below W2.heap.size W2 W3:=⟨hb3.os,hb3.tape,hb3.output,hb3.size,hb3.block⟩
  refine hK.out _ _ ?_ (fun hH=>?_)
  .exact⟨aC hb3 x1,aC hb3 c1,aC hb3 c2⟩
  clear hK K;refine R1 9 ?_;refine R7 ?_;replace oR:W3.ownsRow W2.heap.size 86 3 (Z ra rn rc) rn (rcells rs):=oR;have hrn2:rn<=1000:=by have:=oR.1;rw[fW]at this;omega
  have kB:=kE.trans (hb3.mono kE.size);have oB:=aF oE' hb3;have hbz:=kB.size;go_wp2;go_loopw [5,8] (fun x i wr=>∃(j:Nat) (a:Option Addr) (c:Nat) (zs:List Int),j<=rn/\i=I J j/\x=Z a (j*2) c/\wr.ownsRow w.heap.size 2 1 (Z a (j*2) c) (j*2) (icells zs)/\wr.ownsRow W2.heap.size 86 3 (Z ra rn rc) rn (rcells rs)/\(∀g,(Z a (j*2) c).ownBlock=Y g->(Z ra rn rc).ownBlock≠Y g)/\Below w.heap.size w wr) (fun _ i _=>rn-(intOf i).toNat)
  case atStart=>exact⟨0,_,0,[],Nat.zero_le _,rfl,rfl,oB,oR,fun g hg he=>by have h5:=(aG oR g he).1;have h7:=aG oE' g hg;omega,kB⟩
  case round=>
   clear oB oR kB hbz x1 x6 hLv hIx SB SC SL;obtain⟨j,a,c,zs,hj,rfl,rfl,oB,oR,hap,kB⟩:=hrel;have hbz:=kB.size;by_cases hlt:j<rn
   .obtain⟨g,off,hra,r0,r1,r2⟩:=(aJ oR).row hlt;generalize rs.getD j Row.zero=rr at r0 r1 r2;obtain⟨x,y,z⟩:=rr;simp only at r0 r1 r2;have hg:=aD r0;subst hra;have hN:=cP6 wr.drew x y 2;have hbk:Below wr.heap.size wr (wr.drew.alloc (M #[I J x,I J y] 2)):=(u'.drew).alloc z' _;have oB':=aF oB hbk;have hzz:w.heap.size<=(wr.drew.alloc (M #[I J x,I J y] 2)).heap.size:=by have:=hbk.size;omega
    go_upto_region 12 with fail
    refine R0 (fun W'=>W'.cell? ⟨g,off+j*3,O⟩=Y (I J x)/\W'.cell? ⟨g,off+j*3+1,O⟩=Y (I J y)) (⟨r0,r1⟩) (fun hH=>?_);refine R5 0 1 2 3 4 ?_;refine R5 5 6 7 8 9 ?_;refine R1 10 ?_;refine R6 11 (fun K hK=>?_);go_simp;refine hK.out _ _ ?_ (fun hH=>?_)
    .exact⟨aC hbk r0,aC hbk r1⟩
    clear hK K;refine R6 12 (fun K hK=>?_);refine lH uG (.tmp 45) (.tmp 56) rfl rfl w.heap.size (Z a (j*2) c) (j*2) (icells zs) (Y ⟨wr.heap.size,0,O⟩) 2 2 (icells [x,y]) rfl rfl oB' hN (dN _) (by omega) hzz ?_;intro a9 c9 W9 o9 gr9 at9;have hne:(Z a (j*2) c).ownBlock≠Y g:=fun he=>hap g he rfl;have hR9:=aK (aF oR hbk) gr9 (fun g hg he=>hap g he hg);refine hK.out _ _ ?_ (fun hH=>?_)
    .exact⟨aM gr9 (aC hbk r0) hne,aM gr9 (aC hbk r1) hne⟩
    clear hK K;refine R1 13 ?_;refine R7 ?_;go_wp2;go_roundw;case rel=>exact⟨j+1,a9,c9,zs++[x,y],by omega,by go_num,by rw[show(j+1)*2=j*2+2 by omega],by rw[show(j+1)*2=j*2+2 by omega,show icells (zs++[x,y])=icells zs++icells [x,y]by simp[icells]];exact o9,hR9,fun g hg he=>by
     rw[show(j+1)*2=j*2+2 by omega]at hg;rcases at9 g hg with h8|h8
     .exact hap g h8 he
     .have:=(aG oR g he).2;have:wr.heap.size<=(wr.alloc (M #[I J x,I J y] 2)).drew.heap.size:=hbk.size;omega,cJ (kB.trans (hbk.mono hbz)) gr9 (fun g hg=>(aG oB g hg).1) hzz⟩
    case measure=>simp[intOf];omega
   .obtain rfl:j=rn:=by omega
    go_wp2;go_ret;exact⟨⟨_,_,_,_,rfl,by omega,oB⟩,kB⟩
 have e4:(k==4)=F':=by simpa using h4
 by_cases h5:k=5
 .subst h5;go_upto_region 14 with fail
  refine R0 (fun W'=>W'.cell? ⟨b,o+6,O⟩=Y (Z s.xa s.xn s.xc)/\W'.cell? ⟨w.heap.size,3,O⟩=Y (I J v)) (⟨x6,c3⟩) (fun hH=>?_);refine R5 0 1 2 3 4 ?_;refine R1 5 ?_;refine R6 6 (fun K hK=>?_);go_simp;refine(SL _ (hIx.below (u'.drew))).mono ?_;rintro r W3⟨ra,rn,rc,rfl,hrn,oR,hb3⟩;replace hb3:Below W2.heap.size W2 W3:=⟨hb3.os,hb3.tape,hb3.output,hb3.size,hb3.block⟩
  refine hK.out _ _ ?_ (fun hH=>?_)
  .exact⟨aC hb3 x6,aC hb3 c3⟩
  clear hK K;refine R1 7 ?_;refine R7 ?_;go_wp2;go_ret;exact⟨⟨_,_,_,_,rfl,hrn,aP oR kE.size⟩,kE.trans (hb3.mono kE.size)⟩
 have e5:(k==5)=F':=by simpa using h5
 go_wp2;go_ret;exact⟨⟨_,_,_,[],rfl,by omega,oE'⟩,kE⟩
def wuD(j:Nat):Nat:=match j with|14=>58|_=>60
def wuE:List Nat:=[14,16]
def wuP(_:Nat):List Nat:=[]
theorem cG6:(wuE.all fun i=>wuE.all fun j=>wuD i !=wuD j||i==j)=A':=by kernel_rfl
theorem dA7:wuE.Nodup:=by decide
def WuR(tb p:Nat)(wk:Int)(wh:Bool)(wv:Int)(j:Nat)(v:Value)(T:Nat->Nat)(w:World):Prop:=match j with
 |14=>w.cell? ⟨tb,p,O⟩=Y v/\T tb=2
 |_=>∃gb,v=Z (Y ⟨gb,0,O⟩) 1 1/\w.heap[gb]? =Y (M #[I J wk,X wh,I J wv] 263 (0,0))/\T gb=8
theorem WuR.mono(tb p:Nat)(wk:Int)(wh:Bool)(wv:Int):∀j v T T' w w',WuR tb p wk wh wv j v T w->(∀k,Kp k T T' w w')->w.heap.size<=w'.heap.size->WuR tb p wk wh wv j v T' w':=by
 intro j v T T' w w' h hk _;unfold WuR at*;split at h
 .obtain⟨h1,h2⟩:=h;obtain⟨h3,h4⟩:=hk 2 tb (aD h1) h2;exact⟨(World.cell?_of_block (w:=w) (w':=w') h3).trans h1,h4⟩
 .obtain⟨g,h1,h2,h3⟩:=h;obtain⟨h4,h5⟩:=aY h2 h3 (hk 8);exact⟨g,h1,h4,h5⟩
theorem cU3{g:Nat}{k:Int}{h:Bool}{v:Int}(hg:w.heap[g]? =Y (M #[I J k,X h,I J v] 263 (0,0))):CellsAt w (Y ⟨g,0,O⟩) (1*3) (bfcells [⟨k,h,v⟩]):=by refine⟨rfl,fun _=>⟨_,_,rfl,fun i _=>?_⟩⟩;rw[cell_of_row _ _ _ _ _ _ hg,Nat.zero_add];simp[bfcells]
theorem dB5(bs:List Bf):∀u∈bfcells bs,u.oneCell'=A':=by intro u hu;unfold bfcells at hu;obtain⟨x,_,h⟩:=List.mem_flatMap.1 hu;simp only[List.mem_cons,List.not_mem_nil,or_false]at h;rcases h with rfl|rfl|rfl<;>rfl
theorem EgX.undo{tb k:Nat}(h:EgX W T b o cs t s e)(ha:s.ta=Y ⟨tb,0,O⟩)(hk:k<s.tn):
  ∃us au nu cu,TxO W 0 T (Z s.ta s.tn s.tc) s.tn e.tx us/\us k=Z au nu cu/\W.cell? ⟨tb,k*8+3,O⟩=Y (Z au nu cu)/\Hid (nu=(aQ e.tx k).un.length):=by
 obtain⟨us,hT⟩:=h.own.tx;obtain⟨au,cu,hu⟩:=dI (hT.un k hk).1;obtain⟨hl,⟨cs',hr,hc⟩,hn,hf⟩:=id hT;have hcc:=hr.cells;obtain⟨b1,off,ha1,hc1⟩:=hcc.2 (by omega);rw[ha]at ha1;simp at ha1;obtain⟨rfl,rfl⟩:=ha1;have:=(hc1 (k*8+3) (by omega)).trans (hc k 3 hk (by decide));rw[Nat.zero_add,show tx8 (aQ e.tx k) (us k) 3=us k from rfl,hu]at this;exact⟨us,au,_,cu,hT,hu,this,rfl⟩
theorem EgX.stayTx{W':World}{tb k i:Nat}(h:EgX W T b o cs t s e)(ha:s.ta=Y ⟨tb,0,O⟩)(hk:k<s.tn)(hK:Kp 2 T T' W W')(hc:W.cell? ⟨tb,i,O⟩=Y v):W'.cell? ⟨tb,i,O⟩=Y v/\W'.frozen? ⟨tb,i,O⟩=F':=by obtain⟨h3,_⟩:=hK tb (aD hc) (h.tb2 ha hk);refine⟨(World.cell?_of_block (w:=W) (w':=W') h3).trans hc,?_⟩;obtain⟨_,_,_,_,_,_,fz⟩:=h.cellsTx ha hk;have:=fz i;unfold World.frozen? at*;rw[h3];exact this
def dH9(T:Nat->Nat)(w:World)(b o:Nat)(cs:Array Value)(t:TypeId)(s:EgS)(e:Eng)(r:Ending)(w':World):Prop:=
 ∃c T' cs' s' e',r=R' (I J c)/\EgX w' T' b o cs' t s' e'/\Stp T T' w w' o cs cs'/\EgF s s'/\(c≠0->s'=s/\e'=e)
theorem EgF.refl(s:EgS):EgF s s:=⟨rfl,by omega,by omega,by omega,z'⟩
theorem aU1(tx key:Int)(has:Bool)(val:Int)(k:Nat)(w:World)(T:Nat->Nat)(b o:Nat)(cs:Array Value)(t:TypeId)(s:EgS)(e:Eng)(h:EgX w T b o cs t s e)(hk:k<s.tn)(htx:tx=(k:Int)+1)(ht:inB tx 1 999=A')(hlv:aL e.lv=0)(hbf:cT (aQ e.tx k).un=0)(hon:s.on+500<=4100000)(hxn:s.xn+50<=1048575)(hfb:(⟨key,has,val⟩:Bf).fault=0):
  Calls prog 211 #[.pointer (Y ⟨b,o,O⟩),I J tx,I J key,X has,I J val] w (dH9 T w b o cs t s e):=by
 have hn4:=h.own.n4;have hw:IntKind.i64.wrap (tx-1)=(k:Int):=by rw[htx,show(k:Int)+1-1=(k:Int)by omega];exact IntWalk.i64_in _ ⟨by omega,by omega⟩
 have HTX:=hid htx;clear htx;obtain⟨us,hT⟩:=h.own.tx;obtain⟨tb,hta⟩:=hT.place (by omega);have HTA:=hid hta;clear hta hT;have HL:=h.own.lv.len;have hne:∀k,k<s.ln->(e.lv.getD k []).length≠0:=fun k hk=>(fR hlv k (by have:=HL.out;omega)).1;have hkey:=(qZ hfb).1;have hF:jQ e.lv tx [⟨key,has,val⟩]=0:=by rw[aO7 hlv ht];exact hfb
 have hfit:=vF (kd:=2) (.inl rfl) hlv ht hfb;unfold nP at hfit;simp only at hfit;have hgood:=hid (rH hF);have hfew:=(aB7 hbf).1;have SB:=fun W hW=>oS s.la s.ln s.lc key e.lv W hW h.own.n2 hne;have SS:=fun W hW=>aW1 s.la s.ln s.lc tx key has val e.lv W hW hlv hkey;generalize Ch.bf key (Ch.has e.lv key)=bb at*;obtain⟨wk,wh,wv⟩:=bb;generalize dO e.lv key has val=Y' at*;obtain⟨yc,nl⟩:=Y';simp only at SB SS hgood hfit;have x1:=h.all.2.1;have hL0:=h.own.lv.sub fI;have hbl:=h.lt;clear hF hkey;go_enter func211,ntmps211
 go_upto_region 1 with fail
 go_wp2_with fail
 refine(SB _ hL0).mono ?_;rintro r W1⟨rfl,hb1⟩;have hbA:Below w.heap.size w (W1.alloc (M #[I J wk,X wh,I J wv] 263)):=hb1.alloc hb1.size _;have x1A:=aC hbA x1;have hLA:=hL0.below hbA;have hbwA:(W1.alloc (M #[I J wk,X wh,I J wv] 263)).heap[W1.heap.size]? =Y (M #[I J wk,X wh,I J wv] 263 (0,0)):=aO rfl;have hszA:W1.heap.size<(W1.alloc (M #[I J wk,X wh,I J wv] 263)).heap.size:=by simp
 have hge1:=hb1.size;go_upto_region 2 with fail
 go_wp2_with fail
 refine(SS _ hLA).mono ?_;rintro r W2⟨a2,m2,c2,rfl,hO2,hb2⟩;go_upto_region 3 with fail
 have hbB:Below (W1.alloc (M #[I J wk,X wh,I J wv] 263)).heap.size (W1.alloc (M #[I J wk,X wh,I J wv] 263)) (W2.alloc (M #[I J 2,I J tx,I J key,X wh,I J wv,X has,I J val] 79)):=hb2.alloc hb2.size _;have hb0:Below w.heap.size w W2:=hbA.trans (hb2.mono hbA.size);have hX2:=h.below hb0 0;have hS2:=Stp.below (T:=T) o cs hb0 0;have hbw2:W2.heap[W1.heap.size]? =Y (M #[I J wk,X wh,I J wv] 263 (0,0)):=aR hb2 hbwA;have hTw2:mrk T w.heap.size 0 W1.heap.size=0:=by unfold mrk;rw[if_neg (by omega)]
 have hL2:(∀i,(nl.getD i []).length<=9223372036854775807)->LvAt (gT (Ice (mrk T w.heap.size 0)) W2) a2 m2 nl:=fun hm=>OwnLv.seen hO2 hm (fun g hg=>jM T w.heap.size g (by have:=hbA.size;omega));generalize mrk T w.heap.size 0=T2 at*;have hbC:=f' W2 (M #[I J 2,I J tx,I J key,X wh,I J wv,X has,I J val] 79);have hX3:=hX2.below hbC 0;have hS3:=hS2.trans (Stp.below o cs hbC 0);have hwk:=aY hbw2 hTw2 (bJ hbC T2 0 0);obtain⟨hbw,hTw⟩:=hwk;have hL3:=fun hm=>(hL2 hm).sub (eG (bJ hbC T2 0 0));have hrec:(W2.alloc (M #[I J 2,I J tx,I J key,X wh,I J wv,X has,I J val] 79)).heap[W2.heap.size]? =Y (M #[I J 2,I J tx,I J key,X wh,I J wv,X has,I J val] 79 (0,0)):=aO rfl;generalize mrk T2 W2.heap.size 0=T3 at*;generalize W1.heap.size=gw at*;generalize hgr:W2.heap.size=gr at*;clear hgr hX2 hS2 hbw2 hTw2 hL2 hbC hbB hb0 hbA x1A hLA hbwA hszA hge1 hO2 hb2 hb1 SB SS;generalize W2.alloc (M #[I J 2,I J tx,I J key,X wh,I J wv,X has,I J val] 79)=W3 at*;by_cases hyc:yc=0
 .subst hyc;have hlg3:aL nl=0:=hgood.out rfl;have hL4:=hL3 (fun i=>by have:=eZ (iV hlg3) i;omega);obtain⟨r0,r1,r2,r3,r4,r5,r6⟩:=aI8 hrec;have hbl3:=hX3.lt;go_upto_region 6 with(refine(oY 2 tx key wh wv has val _ _ b o _ t _ _ hX3 hfit (by omega)).mono ?_;rintro r W4⟨rfl,T4,c4,a4,n4,k4,lo4,hX4,hn4',hS4⟩)
  have hwk4:=aY hbw hTw hS4.k0;have hL5:=hL4.sub (eG hS4.k0);have y1:=hX4.all.2.1;have f1:=hX4.frz (o+1);have hbl4:=hX4.lt;go_upto_region 7 with fail
  have hset:=EgX.set (i:=1) (v:=Z a2 m2 c2) hX4.box hX4.cell hX4.tag (hX4.own.newLv (c:=c2) hL5 (iV hlg3)) (by decide) rfl;have hwk5:=aY hwk4.1 hwk4.2 hset.2.k0;have hX5:=hset.1;have hS5:=(hS3.trans hS4).trans hset.2;clear hset hX4 hS4 hX3 hS3 hL3 hL4 hL5 y1 f1 hwk4 hbw hTw hrec r0 r1 r2 r3 r4 r5 r6 hbl4 hbl3;generalize W4.setCell ⟨b,o+1,O⟩ (Z a2 m2 c2)=W5 at*;generalize c4.setIfInBounds (o+1) (Z a2 m2 c2)=c5 at*;have HF:Hid (∀(n:Nat) (a:Option Addr) (c:Nat),n<=s.xn+1->EgF s {s with la:=a2,ln:=m2,lc:=c2,oa:=a4,on:=n4,oc:=k4,xa:=a,xn:=n,xc:=c}):=fun n a c hn=>⟨rfl,by simp only;omega,by simp only;omega,by simp only;omega,z'⟩
  have hs5:({s with la:=a2,ln:=m2,lc:=c2,oa:=a4,on:=n4,oc:=k4}:EgS).ta=s.ta/\({s with la:=a2,ln:=m2,lc:=c2,oa:=a4,on:=n4,oc:=k4}:EgS).tn=s.tn/\({s with la:=a2,ln:=m2,lc:=c2,oa:=a4,on:=n4,oc:=k4}:EgS).xn=s.xn:=⟨rfl,rfl,rfl⟩
  have hY5:({e with lo:=lo4,lv:=nl}:Eng).tx=e.tx/\({e with lo:=lo4,lv:=nl}:Eng).lv=nl:=⟨rfl,rfl⟩
  have HF3:Hid (∀(n:Nat) (a:Option Addr) (c:Nat),n<=s.xn+1->EgF s {({s with la:=a2,ln:=m2,lc:=c2,oa:=a4,on:=n4,oc:=k4}:EgS)with xa:=a,xn:=n,xc:=c}):=HF;clear HF;generalize({s with la:=a2,ln:=m2,lc:=c2,oa:=a4,on:=n4,oc:=k4}:EgS)=s3 at hX5 hs5 HF3;generalize({e with lo:=lo4,lv:=nl}:Eng)=e3 at hX5 hY5;obtain⟨p1,p2,p3⟩:=hs5;obtain⟨p4,p5⟩:=hY5;have HTA3:Hid (s3.ta=Y ⟨tb,0,O⟩):=p1.trans HTA.out;have hk3:k<s3.tn:=by omega
  have hfew3:(aQ e3.tx k).un.length<=40:=by rw[p4];exact hfew
  replace hlg3:aL e3.lv=0:=by rw[p5];exact hlg3
  have HX3:=hid p3;have hx3:s3.xn+50<=1048575:=by omega
  have hn43:=hX5.own.n4;clear p1 p2 p3 p4 p5;obtain⟨hbw,hTw⟩:=hwk5;obtain⟨w0,w1,w2⟩:=sI hbw;have y3:=hX5.all.2.2.2.1;rw[HTA3.out]at y3;have hbl5:=hX5.lt;have htl5:tb<W5.heap.size:=by obtain⟨_,⟨v3,z3⟩,_⟩:=hX5.cellsTx HTA3.out hk3;exact aD z3
  have hgw5:=aD w0;refine R0 (fun W'=>W'.cell? ⟨b,o+3,O⟩=Y (Z (Y ⟨tb,0,O⟩) s3.tn s3.tc)/\W'.cell? ⟨gw,0,O⟩=Y (I J wk)/\W'.cell? ⟨gw,1,O⟩=Y (X wh)/\W'.cell? ⟨gw,2,O⟩=Y (I J wv)) (⟨y3,w0,w1,w2⟩) (fun hH=>?_);refine R5 0 1 2 3 4 ?_;refine R5 5 6 7 8 9 ?_;refine R5 10 11 12 13 15 ?_;refine rJ (d:=wuD) (E:=wuE) (L1:=#[A',A',A',A',A',A',A',A',A',A',A',A',A',A',A',A',A',F',F',F',F']) (fuel1:=4) (pre:=wuP) (R:=WuR tb (k*8+3) wk wh wv) (Bs:=fun T' W=>EgX W T' b o c5 t s3 e3/\Stp T4 T' W5 W o c5 c5/\W.heap[gw]? =Y (M #[I J wk,X wh,I J wv] 263 (0,0))/\T' gw=0) cG6 dA7 (by kernel_rfl) (by kernel_rfl) (by kernel_rfl) (by kernel_rfl) (by kernel_rfl) (by kernel_rfl) (by kernel_rfl) (WuR.mono tb (k*8+3) wk wh wv) ?bs ?step ?last T4 ?init;case init=>exact⟨hX5.drew,Stp.drew _ _ _ _,hbw,hTw⟩
  case bs=>intro T' W hB;obtain⟨q0,q1,q2⟩:=sI hB.2.2.1;have q3:=hB.1.all.2.2.2.1;rw[HTA3.out]at q3;exact⟨q3,q0,q1,q2⟩
  case step=>
   intro i hi vs T' W hB hp;unfold wuE at hi;simp only[List.mem_cons,List.not_mem_nil,or_false]at hi;rcases hi with rfl|rfl
   .obtain⟨us,au,nu,cu,hT,hus,hcell,_⟩:=hB.1.undo HTA3.out hk3;refine kD ⟨Y 58,.load 153 (.tmp 57),_,_,_,O⟩ (Z au nu cu) (by rfl) cG6 dA7 (by kernel_rfl) rfl ?_ ?_
    .intro ev h1 h2;have s1:ev (.tmp 57)= .pointer (Y ⟨tb,k*8+3,O⟩):=(h2 57 (by kernel_rfl)).trans rfl;clear h1 h2;go_simp
    .exact⟨_,T',rfl,⟨hcell,hB.1.tb2 HTA3.out hk3⟩,fun k=>Kp.refl k T' W,z',hB⟩
   .have hb:=f' W (M #[I J wk,X wh,I J wv] 263);refine vZ ⟨Y 60,.buildSlice 153 1 #[(0,.tmp 59)],_,_,_,O⟩ (Z (Y ⟨W.heap.size,0,O⟩) 1 1) (W.alloc (M #[I J wk,X wh,I J wv] 263)) (by rfl) cG6 dA7 (by kernel_rfl) rfl ?_ ?_
    .intro ev h1 h2;have s1:ev (.tmp 59)=U #[I J wk,X wh,I J wv]:=(h2 59 (by kernel_rfl)).trans rfl;clear h1 h2;go_simp
    .have hk0:=fun k'=>bJ hb T' 8 k';obtain⟨h4,h5⟩:=aY hB.2.2.1 hB.2.2.2 (hk0 0);exact⟨_,mrk T' W.heap.size 8,rfl,⟨W.heap.size,rfl,aO rfl,by unfold mrk;rw[if_neg (by omega)]⟩,hk0,hb.size,hB.1.below hb 8,hB.2.1.trans (Stp.below o c5 hb 8),h4,h5⟩
  case last=>
   intro vs T' W hB hR;obtain⟨hX,hS,hbw',hTw'⟩:=hB;obtain⟨us,au,nu,cu,hT,hus,hcell,HNu⟩:=hX.undo HTA3.out hk3;have e14:vs 14=Z au nu cu:=by have h1:W.cell? ⟨tb,k*8+3,O⟩=Y (vs 14):=(hR 14 (by simp[wuE])).1;rw[hcell]at h1;exact(Option.some.inj h1).symm
   obtain⟨gb,e16,hgb,hTb⟩:=hR 16 (by simp[wuE]);clear hR;have hN:=cU3 hgb;have hU:=hT.un k hk3;rw[hus,<-HNu.out]at hU;have hnu:nu<=40:=by have h1:=HNu.out;have h2:=hfew3;omega
   dsimp only[dV,wuE,List.foldl];simp only[Act.put,wuD,List.setIfInBounds_toArray,List.set_cons_zero,List.set_cons_succ];rw[e14,e16];refine R6 17 (fun K hK=>?_);refine lH dE9 (.tmp 58) (.tmp 60) rfl rfl 0 (Z au nu cu) nu (bfcells (aQ e3.tx k).un) (Y ⟨gb,0,O⟩) 1 1 (bfcells [⟨wk,wh,wv⟩]) rfl rfl hU.1 hN (dB5 _) (by omega) (Nat.zero_le _) ?_;intro a9 c9 W9 o9 gr9 at9;rw[show bfcells (aQ e3.tx k).un++bfcells [⟨wk,wh,wv⟩]=bfcells ((aQ e3.tx k).un++[⟨wk,wh,wv⟩])by simp[bfcells]]at o9;have hI9:=hX.addUn (bs:=(aQ e3.tx k).un++[⟨wk,wh,wv⟩]) HTA3.out hk3 hT hus (by omega) (by simp;exact HNu.out.symm) o9 gr9 at9;have kk:=fun m (hm:m≠2*k+10)=>dS gr9 (fun g hg=>hU.2 g hg) hm;have hb9:=aY hX.box hX.tag (kk 1 (by omega));have z3:W9.cell? ⟨b,o+3,O⟩=Y (Z s3.ta s3.tn s3.tc):=(cell_of_row _ b (o+3) _ _ _ hb9.1).trans (hX.cell 3 (by decide));rw[HTA3.out]at z3;have hw9:=aY hbw' hTw' (kk 0 (by omega));obtain⟨q0,q1,q2⟩:=sI hw9.1;have ht9:W9.cell? ⟨tb,k*8+3,O⟩=Y (Z au nu cu)/\W9.frozen? ⟨tb,k*8+3,O⟩=F':=hX.stayTx HTA3.out hk3 (kk 2 (by omega)) hcell;obtain⟨z4,f4⟩:=ht9;refine hK.out _ _ ?_ (fun hH=>?_)
   .exact⟨z3,q0,q1,q2⟩
   clear hK K;refine J3 ?_;refine R2 18 19 ?_;refine R6 20 (fun K hK=>?_);go_simp;refine hK.out _ _ ?_ (fun hH=>?_)
   .have q3:=hI9.1.all.2.2.2.1
    (try simp only at q3)
    rw[HTA3.out]at q3;obtain⟨p0,p1,p2⟩:=sI (aY hbw' hTw' hI9.2.k0).1;exact⟨q3,p0,p1,p2⟩
   clear hK K;refine R7 ?_;have hXA:=hI9.1;have hSA:=(hS5.trans hS).trans hI9.2;clear hI9 o9 gr9 at9 hb9 z3 z4 f4 hw9 q0 q1 q2 hX hS hT hU hN hgb hH kk hbw' hcell hus e14 e16;generalize W9.setCell ⟨tb,k*8+3,O⟩ (Z a9 (nu+1) c9)=WA at*;have hblA:=hXA.lt;go_wp2_with fail
   refine(aK1 key _ _ b o _ t _ _ hXA hlg3 (by omega)).mono ?_;rintro r WB⟨rfl,TB,cB,aB,nB,kB,ixB,hXB,hnB,hSB⟩;go_wp2;go_ret;exact⟨0,TB,cB,_,_,rfl,hXB,hSA.trans hSB,HF3.out nB aB kB (by have:=HX3.out;omega),fun h0=>absurd rfl h0⟩
 .have hyb:(yc !=0)=A':=by simpa using hyc
  go_wp2;go_ret;exact⟨yc,T3,cs,s,e,rfl,hX3,hS3,EgF.refl s,fun _=>⟨rfl,rfl⟩⟩
theorem EgX.out(h:EgX w T b o cs t s e)(j:Nat)(v:Value)(hj:j<o\/o+10<=j):
  EgX (w.setCell ⟨b,j,O⟩ v) T b o (cs.setIfInBounds j v) t s e/\∀k,k≠1->Kp k T T w (w.setCell ⟨b,j,O⟩ v):=by
 have hk:∀k,k≠1->Kp k T T w (w.setCell ⟨b,j,O⟩ v):=fun k hk=>pR h.tag hk;refine⟨⟨h.own.kept (fun k h1 _=>hk k h1),heap_setCell_same w b j cs t v h.box,fun i hi=>?_,h.tag⟩,hk⟩;rw[Array.getElem?_setIfInBounds_ne (by omega)];exact h.cell i hi
theorem EgX.grown8(h:EgX w T b o cs t s e)(hg:w.grownBy w' row)(hr:∀g,row=Y g->T g=8):EgX w' (mrk T w.heap.size 8) b o cs t s e:=by have hk:∀k,k≠8->Kp k T (mrk T w.heap.size 8) w w':=fun k hk=>dS hg hr hk;obtain⟨h4,h5⟩:=aY h.box h.tag (hk 1 (by decide));exact⟨h.own.kept (fun k _ h8=>hk k h8),h4,h.cell,h5⟩
structure Past(w0:World)(T:Nat->Nat)(w:World):Prop where
 bel:Below w0.heap.size w0 w
 old:∀x,x<w0.heap.size->T x=8
theorem Past.refl(w0:World)(T:Nat->Nat)(h:∀x,x<w0.heap.size->T x=8):Past w0 T w0:=⟨u',h⟩
theorem Past.below(h:Past w0 T w)(hb:Below w.heap.size w w')(j:Nat):Past w0 (mrk T w.heap.size j) w':=
 ⟨h.bel.trans (hb.mono h.bel.size),fun x hx=>by rw[fB (by have:=h.bel.size;omega)];exact h.old x hx⟩
theorem Past.stp{cs':Array Value}(h:Past w0 T w)(hs:Stp T T' w w' o cs cs'):Past w0 T' w':=by
 have hz:=h.bel.size;refine⟨⟨hs.os.trans h.bel.os,hs.tape.trans h.bel.tape,hs.output.trans h.bel.output,Nat.le_trans h.bel.size hs.size,fun x hx=>?_⟩,fun x hx=>?_⟩
 .exact(hs.k8 x (by omega) (h.old x hx)).1.trans (h.bel.block x hx)
 .exact(hs.k8 x (by omega) (h.old x hx)).2
theorem Past.set{j:Nat}(h:Past w0 T w)(hb:w0.heap.size<=b):Past w0 T (w.setCell ⟨b,j,O⟩ v):=⟨h.bel.setCell hb _,h.old⟩
theorem Past.grown(h:Past w0 T w)(hg:w.grownBy w' row)(hr:∀g,row=Y g->w0.heap.size<=g)(j:Nat):Past w0 (mrk T w.heap.size j) w':=
 ⟨cJ h.bel hg hr h.bel.size,fun x hx=>by rw[fB (by have:=h.bel.size;omega)];exact h.old x hx⟩
theorem Past.drew(h:Past w0 T w):Past w0 T w.drew:=⟨h.bel.drew,h.old⟩
theorem EgX.ge(h:EgX w T b o cs t s e)(hp:Past w0 T w):w0.heap.size<=b:=by
 rcases Nat.lt_or_ge b w0.heap.size with hlt|hge
 .have h1:=hp.old b hlt;have h2:=h.tag;omega
 .exact hge
structure Ch.Fair(N:Nat)(e:Ch.Eng):Prop where
 lv:aL e.lv=0
 lk:aS e.lk=0
 nm:eW N e.lk
 tl:e.tx.length=N
 tn:N<=20
 un:∀k,k<N->cT (aQ e.tx k).un=0
theorem cL6:cT []=0:=rfl
structure EgZ(d:Nat)(s0 s:EgS):Prop where
 tn:s.tn=s0.tn
 sn:s.sn=s0.sn
 mn:s.mn=s0.mn
 on:s.on<=s0.on+d*451
 xn:s.xn<=s0.xn+d*41
 an:s.an<=s0.an+d
theorem EgZ.refl(s:EgS):EgZ 0 s s:=⟨rfl,rfl,rfl,by omega,by omega,by omega⟩
theorem EgZ.more{d:Nat}{s0:EgS}(h:EgZ d s0 s)(hc:EgC 1 1 s s' e e'):EgZ (d+1) s0 s':=
 ⟨hc.tn.trans h.tn,hc.sn.trans h.sn,hc.mn.trans h.mn,by have:=h.on;have:=hc.on;omega,by have:=h.xn;have:=hc.xn;omega,by have:=h.an;have:=hc.an;omega⟩
theorem Ch.Fair.gone{N:Nat}{v:Int}(h:Ch.Fair N e)(hc:EgC 1 1 s s' e e')(hl:e'.lk=(dG e.lk v).filter iD):Ch.Fair N e':=by
 have hl':e'.lk=jL e.lk v:=hl;refine⟨hc.lv,by rw[hl'];exact aC7 h.lk v,by rw[hl'];exact uU h.lk h.nm v,hc.tl.trans h.tl,h.tn,fun k hk=>?_⟩;rcases hc.un k with h1|h1
 .rw[h1];exact h.un k hk
 .rw[h1];exact cL6
theorem Ch.Good.fair(h:Ch.Good e):Ch.Fair e.tx.length e:=⟨h.lv,h.lk,aR7 h.kn,rfl,h.tn,h.un⟩
end Go.Proofs.YtpbbokalojdooaaGreat
