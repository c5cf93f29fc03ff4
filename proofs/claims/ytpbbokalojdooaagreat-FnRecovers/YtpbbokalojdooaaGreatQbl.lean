import Derived.Test.YtpbbokalojdooaaGreatQbk
namespace Go.Proofs.YtpbbokalojdooaaGreat
open Go.RowKit Ch Go.Proofs.Tryz
set_option linter.unusedSimpArgs false
set_option linter.unusedVariables false
set_option maxRecDepth 20000
set_option maxHeartbeats 8000000
open Value renaming int->I,slice->Z,bool->X,agg->U
open IntKind renaming i64->J
open Option renaming none->O,some->Y
open Obj renaming cells->M
open Ending renaming returned->R'
open Bool renaming true->A',false->F'
variable {cs:Array Value} {wt:Bool} {s:EgS} {e:Eng} {c k p:Int} {ls:List (List Row)} {ts:List Ac} {xs:List Value} {H b g n:Nat} {T:Nat->Nat} {us:Nat->Value} {a:Option Addr} {t:TypeId} {x y:Value} {W w w':World}
theorem aZ3(ls:List (List Row))(key:Int):aW (eS ls key)<=aW ls:=by
 unfold eS aW;induction ls with
 |nil=>simp
 |cons l ls ih=>
  have h:=List.length_filter_le (dQ key) l;rw[List.map_cons,List.filter_cons];split
  .simp only[List.map_cons,List.sum_cons,List.length_cons]at*;omega
  .simp only[List.map_cons,List.sum_cons,List.length_cons]at*;omega
theorem bC5(h:aL ls=0):aW (aE1 ls.flatten)<=10000:=by
 have h1:=nV h;have h2:ls.flatten.length<=1000:=by rw[List.length_flatten];unfold aW at h1;omega
 have h3:∀(xs:List Nat),((xs.map (gL ls.flatten)).map List.length).sum<=xs.length*4:=by
  intro xs;induction xs with
  |nil=>simp
  |cons x xs ih=>
   have:(gL ls.flatten x).length<=4:=by unfold gL;simp;omega
   simp only[List.map_cons,List.sum_cons,List.length_cons]at*;omega
 have h4:=h3 (List.range (wF ls.flatten));unfold aE1 aW;rw[List.length_map,List.length_range]at*;have:wF ls.flatten<=1003:=by unfold wF;omega
 omega
theorem cP9{q v:Int}(h:aN k p q v=0):(k=2->(⟨p,A',v⟩:Bf).fault=0)/\(k=3->(⟨p,F',0⟩:Bf).fault=0):=by
 constructor
 .rintro rfl;unfold aN at h;simp only[show ¬((2:Int)=1\/(2:Int)=3\/(2:Int)=8)by omega,if_false,if_true]at h;split at h
  .cases h
  .split at h
   .cases h
   .rename_i h1 h2
    unfold Bf.fault;simp at h1 h2;simp[h1,h2]
 .rintro rfl;unfold aN at h;cases hin:inB p 0 99
  .simp[hin]at h
  .unfold Bf.fault;have h2:=fM hin;simp[inB];omega
def ddD(j:Nat):Nat:=match j with|4=>48|6=>50|_=>51
def ddE:List Nat:=[4,6,7]
def ddP(j:Nat):List Nat:=match j with|7=>[4,6]|_=>[]
theorem aJ0:(ddE.all fun i=>ddE.all fun j=>ddD i !=ddD j||i==j)=A':=by kernel_rfl
theorem bI5:ddE.Nodup:=by decide
def DdR(la:Option Addr)(ln lc:Nat)(p:Int)(ls:List (List Row))(j:Nat)(v:Value)(T:Nat->Nat)(w:World):Prop:=match j with
 |4=>v=Z la ln lc
 |6=>v=I J p
 |_=>∃a m c,v=Z a m c/\LvAt (gT (Ice T) w) a m ls
theorem DdR.mono(la:Option Addr)(ln lc:Nat)(p:Int)(ls:List (List Row)):∀j v T T' w w',DdR la ln lc p ls j v T w->(∀k,Kp k T T' w w')->w.heap.size<=w'.heap.size->DdR la ln lc p ls j v T' w':=by
 intro j v T T' w w' h hk _;unfold DdR at*;split at h
 .exact h
 .exact h
 .obtain⟨a,m,c,h1,h2⟩:=h;exact⟨a,m,c,h1,h2.sub (eG (hk 0))⟩
theorem cU9(k p q v tx:Int)(i:Nat)(w:World)(T:Nat->Nat)(b o:Nat)(cs:Array Value)(t:TypeId)(s:EgS)(e:Eng)(h:EgX w T b o cs t s e)(hi:i<s.tn)(htx:tx=(i:Int)+1)(ht:inB tx 1 999=A')(hlv:aL e.lv=0)(hlk:aS e.lk=0)(hbf:cT (aQ e.tx i).un=0)(hop:aN k p q v=0)(hon:s.sn+s.on+1000<=4100000)(hxn:s.xn+400<=1048575)(hmn:s.mn+1<=1048576):
  Calls prog 188 #[.pointer (Y ⟨b,o,O⟩),I J tx,U #[I J k,I J p,I J q,I J v]] w (dH9 T w b o cs t s e):=by
 have hbA:=f' w (M #[I J k,I J p,I J q,I J v] 54);have hXA:=h.below hbA 8;have hSA:=Stp.below (T:=T) o cs hbA 8;have o0:(w.alloc (M #[I J k,I J p,I J q,I J v] 54)).heap[w.heap.size]? =Y (M #[I J k,I J p,I J q,I J v] 54 (0,0)):=aO rfl;obtain⟨HS2,HS3⟩:=cP9 hop;have HL:=h.own.lv.len;have hne:∀k,k<s.ln->(e.lv.getD k []).length≠0:=fun k hk=>(fR hlv k (by have:=HL.out;omega)).1;have SF:=fun W hW=>tC s.la s.ln s.lc p e.lv W hW h.own.n2 hne;have SD:=fun W hW=>bD6 s.la s.ln s.lc p e.lv W hW h.own.n2;have SP:=fun W hW=>bY8 s.la s.ln s.lc e.lv W hW h.own.n2 hne;have SO:=fun W hW=>aM5 s.la s.ln s.lc e.lv W hW h.own.n2 hlv;have zd:aW (eS e.lv p)<=1048576:=Nat.le_trans (aZ3 _ _) h.own.n2;have zp:aW (aE1 e.lv.flatten)<=1048576:=by have:=bC5 hlv;omega
 have HTX:=hid htx;clear hop h hne HL htx;go_enter func188,ntmps188
 go_upto_region 2 with fail
 generalize w.alloc (M #[I J k,I J p,I J q,I J v] 54)=WA at*;generalize hTA:mrk T w.heap.size 8=TA at*;generalize hg0:w.heap.size=g0 at o0;obtain⟨c0,c1,c2,c3⟩:=(jJ o0).1;have hol:=aD c0;have hbl:=hXA.lt;clear hbA hg0 hTA o0;by_cases k2:k=2
 .subst k2;go_wp2_with fail
  refine(aU1 tx p A' v i _ _ b o _ t _ _ hXA hi HTX.out ht hlv hbf (by omega) (by omega) (HS2 trivial)).mono ?_;rintro r W2⟨c,T2,cs2,s2,e2,rfl,hX2,hS2,hF2,hc2⟩;go_wp2;go_ret;exact⟨c,T2,cs2,s2,e2,rfl,hX2,hSA.trans hS2,hF2,hc2⟩
 have e2:(k==2)=F':=by simpa using k2
 by_cases k3:k=3
 .subst k3;go_wp2_with fail
  refine(aU1 tx p F' 0 i _ _ b o _ t _ _ hXA hi HTX.out ht hlv hbf (by omega) (by omega) (HS3 trivial)).mono ?_;rintro r W2⟨c,T2,cs2,s2,e2,rfl,hX2,hS2,hF2,hc2⟩;go_wp2;go_ret;exact⟨c,T2,cs2,s2,e2,rfl,hX2,hSA.trans hS2,hF2,hc2⟩
 have e3:(k==3)=F':=by simpa using k3
 obtain⟨_,x1,_,_,_,_,x6,_,_,_⟩:=hXA.all;have fr1:=hXA.frz (o+1);have hLA:=hXA.own.lv.sub fI;by_cases k8:k=8
 .subst k8;go_upto_region 7 with fail
  refine R0 (fun W'=>W'.cell? ⟨b,o+1,O⟩=Y (Z s.la s.ln s.lc)/\W'.cell? ⟨g0,1,O⟩=Y (I J p)) ⟨x1,c1⟩ (fun hH=>?_);refine R5 0 1 2 3 4 ?_;refine R1 5 ?_;refine wpAnyH_ready (rs:=[6,10]) (by kernel_rfl) (by simp) ?_;refine AllReadyH.cons rfl (fun K hK=>?_) (AllReadyH.cons rfl (fun K hK=>?_) AllReadyH.nil);focus
   go_simp;refine(SF _ (hLA.below (u'.drew))).mono ?_;rintro r W2⟨⟨rk,rv,rg⟩,ok,rfl,_,hb2⟩;replace hb2:Below WA.heap.size WA W2:=⟨hb2.os,hb2.tape,hb2.output,hb2.size,hb2.block⟩
   refine hK.out _ _ ⟨aC hb2 x1,aC hb2 c1⟩ (fun hH=>?_);clear hK K;refine R3 7 8 9 ?_;have hbA:=f' W2 (M #[I J 0,I J 0,X F'] 86);have hBB:=hb2.trans (hbA.mono hb2.size);have hg:(W2.alloc (M #[I J 0,I J 0,X F'] 86)).heap[W2.heap.size]? =Y (M #[I J 0,I J 0,X F'] 86 (0,0)):=aO rfl;have hgw:=hb2.size;refine R6 10 (fun K hK=>?_);go_simp;refine hK.out _ _ ⟨aC hBB x1,aC hBB c1⟩ (fun hH=>?_);clear hK K hbA;generalize W2.alloc (M #[I J 0,I J 0,X F'] 86)=W at*;generalize W2.heap.size=g at*;have q0:W.cell? ⟨g,0,O⟩=_:=cell_of_row _ g 0 _ _ _ hg;have q1:W.cell? ⟨g,1,O⟩=_:=cell_of_row _ g 1 _ _ _ hg;have q2:W.cell? ⟨g,2,O⟩=_:=cell_of_row _ g 2 _ _ _ hg;have f0:=frozen_of_row _ g 0 _ _ hg;have f1:=frozen_of_row _ g 1 _ _ hg;have f2:=frozen_of_row _ g 2 _ _ hg;have h0:=heap_setCell_same W g 0 _ _ (I J rk) hg;have h1:=heap_setCell_same _ g 1 _ _ (I J rv) h0;have h2:=heap_setCell_same _ g 2 _ _ (X rg) h1;have hgr:W.grownBy (((W.setCell ⟨g,0,O⟩ (I J rk)).setCell ⟨g,1,O⟩ (I J rv)).setCell ⟨g,2,O⟩ (X rg)) (Y g):=cN (cN nI);have hBR:Below WA.heap.size WA (((W.setCell ⟨g,0,O⟩ (I J rk)).setCell ⟨g,1,O⟩ (I J rv)).setCell ⟨g,2,O⟩ (X rg)):=cJ hBB hgr (fun k hk=>by cases hk;exact hgw) hBB.size;refine R6 11 (fun K hK=>?_);go_simp;refine hK.out _ _ ⟨aC hBR x1,aC hBR c1⟩ (fun hH=>?_);clear hK K;refine R1 12 ?_;refine R7 ?_;have hrr:(((W.setCell ⟨g,0,O⟩ (I J rk)).setCell ⟨g,1,O⟩ (I J rv)).setCell ⟨g,2,O⟩ (X rg)).heap[g]? =Y (M #[I J rk,I J rv,X rg] 86 (0,0)):=h2;generalize((W.setCell ⟨g,0,O⟩ (I J rk)).setCell ⟨g,1,O⟩ (I J rv)).setCell ⟨g,2,O⟩ (X rg)=WR at*;clear hgr h0 h1 h2 q0 q1 q2 f0 f1 f2 hg hBB hgw hH
  rotate_left;focus
   have hbA:Below WA.heap.size WA (WA.alloc (M #[I J 0,I J 0,X F'] 86)).drew:=(q').drew;have hg1:(WA.alloc (M #[I J 0,I J 0,X F'] 86)).drew.heap[WA.heap.size]? =Y (M #[I J 0,I J 0,X F'] 86 (0,0)):=aO rfl;go_simp;refine hK.out _ _ ⟨aC hbA x1,aC hbA c1⟩ (fun hH=>?_);clear hK K;generalize hWB:(WA.alloc (M #[I J 0,I J 0,X F'] 86)).drew=WB at*;clear hWB;obtain⟨g,hgE⟩:∃g,WA.heap.size=g:=⟨_,rfl⟩
   have hgw:WA.heap.size<=g:=by omega
   simp only[hgE]at hg1⊢;clear hgE;refine R6 6 (fun K hK=>?_);go_simp;refine(SF _ (hLA.below hbA)).mono ?_;rintro r W⟨⟨rk,rv,rg⟩,ok,rfl,_,hb2⟩;have hBB:=hbA.trans (hb2.mono hbA.size);have hg:=aR hb2 hg1;refine hK.out _ _ ⟨aC hBB x1,aC hBB c1⟩ (fun hH=>?_);clear hK K;refine R3 7 8 9 ?_;have q0:W.cell? ⟨g,0,O⟩=_:=cell_of_row _ g 0 _ _ _ hg;have q1:W.cell? ⟨g,1,O⟩=_:=cell_of_row _ g 1 _ _ _ hg;have q2:W.cell? ⟨g,2,O⟩=_:=cell_of_row _ g 2 _ _ _ hg;have f0:=frozen_of_row _ g 0 _ _ hg;have f1:=frozen_of_row _ g 1 _ _ hg;have f2:=frozen_of_row _ g 2 _ _ hg;have h0:=heap_setCell_same W g 0 _ _ (I J rk) hg;have h1:=heap_setCell_same _ g 1 _ _ (I J rv) h0;have h2:=heap_setCell_same _ g 2 _ _ (X rg) h1;have hgr:W.grownBy (((W.setCell ⟨g,0,O⟩ (I J rk)).setCell ⟨g,1,O⟩ (I J rv)).setCell ⟨g,2,O⟩ (X rg)) (Y g):=cN (cN nI);have hBR:Below WA.heap.size WA (((W.setCell ⟨g,0,O⟩ (I J rk)).setCell ⟨g,1,O⟩ (I J rv)).setCell ⟨g,2,O⟩ (X rg)):=cJ hBB hgr (fun k hk=>by cases hk;exact hgw) hBB.size;refine R6 11 (fun K hK=>?_);go_simp;refine hK.out _ _ ⟨aC hBR x1,aC hBR c1⟩ (fun hH=>?_);clear hK K;refine R1 12 ?_;refine R7 ?_;have hrr:(((W.setCell ⟨g,0,O⟩ (I J rk)).setCell ⟨g,1,O⟩ (I J rv)).setCell ⟨g,2,O⟩ (X rg)).heap[g]? =Y (M #[I J rk,I J rv,X rg] 86 (0,0)):=h2;generalize((W.setCell ⟨g,0,O⟩ (I J rk)).setCell ⟨g,1,O⟩ (I J rv)).setCell ⟨g,2,O⟩ (X rg)=WR at*;clear hgr h0 h1 h2 q0 q1 q2 f0 f1 f2 hg hBB hgw hH
  all_goals
   have hXR:=hXA.below hBR 8;have hSR:=hSA.trans (Stp.below (T:=TA) o cs hBR 8);have c1:=aC hBR c1;obtain⟨r0,r1,r2⟩:=sI hrr;have hbl:=hXR.lt;have hLR:=hXR.own.lv.sub fI;have hol:=aD c1;have hrl:=aD r0;clear hBR hrr hLA;cases ok
   .go_wp2;go_ret;exact⟨0,_,_,s,e,rfl,hXR,hSR,EgF.refl s,fun h0=>absurd rfl h0⟩
   .cases rg
    .go_wp2;go_ret;exact⟨0,_,_,s,e,rfl,hXR,hSR,EgF.refl s,fun h0=>absurd rfl h0⟩
    .go_upto_region 9 with fail
     refine R0 (fun _=>True) trivial (fun hH=>?_);refine R5 0 1 2 3 5 ?_;refine rJ (d:=ddD) (E:=ddE) (L1:=#[A',A',A',A',A',A',A',A',F',F',F']) (fuel1:=3) (pre:=ddP) (R:=DdR s.la s.ln s.lc p (eS e.lv p)) (Bs:=fun T'' W=>Below WR.heap.size WR W/\EgX W T'' b o cs t s e/\Stp (mrk TA WA.heap.size 8) T'' WR W o cs cs) aJ0 bI5 (by kernel_rfl) (by kernel_rfl) (by kernel_rfl) (by kernel_rfl) (by kernel_rfl) (by kernel_rfl) (by kernel_rfl) (DdR.mono s.la s.ln s.lc p (eS e.lv p)) ?bs ?step ?last (mrk TA WA.heap.size 8) ?init;case init=>exact⟨u'.drew,hXR.drew,Stp.drew _ _ _ _⟩
     case bs=>exact fun _ _ _=>trivial
     case step=>
      intro i hi vs T' W hB hp;obtain⟨hB0,hB1,hB2⟩:=hB;have hB:=And.intro hB0 (And.intro hB1 hB2);have x1:=hB1.all.2.1;have c1:=aC hB0 c1;have hLW:=hLR.below hB0;unfold ddE at hi;simp only[List.mem_cons,List.not_mem_nil,or_false]at hi;rcases hi with rfl|rfl|rfl
      .refine kD ⟨Y 48,.load 61 (.tmp 47),_,_,_,O⟩ (Z s.la s.ln s.lc) (by rfl) aJ0 bI5 (by kernel_rfl) rfl ?_ ?_
       .intro ev h1 h2;have s1:ev (.tmp 47)= .pointer (Y ⟨b,o+1,O⟩):=(h2 47 (by kernel_rfl)).trans rfl;clear h1 h2;go_simp
       .exact⟨_,T',rfl,rfl,fun k=>Kp.refl k T' W,z',hB⟩
      .refine kD ⟨Y 50,.load 2 (.tmp 49),_,_,_,O⟩ (I J p) (by rfl) aJ0 bI5 (by kernel_rfl) rfl ?_ ?_
       .intro ev h1 h2;have s1:ev (.tmp 49)= .pointer (Y ⟨g0,1,O⟩):=(h2 49 (by kernel_rfl)).trans rfl;clear h1 h2;go_simp
       .exact⟨_,T',rfl,rfl,fun k=>Kp.refl k T' W,z',hB⟩
      .have e3:vs 4=Z s.la s.ln s.lc:=hp 4 (by simp[ddP]);have e5:vs 6=I J p:=hp 6 (by simp[ddP]);refine wpOp_step rfl (fun K hK=>?_);refine qB (xs:=#[.tmp 48,.tmp 50]) (vs:=#[Z s.la s.ln s.lc,I J p]) rfl rfl ?_ (by go_simp) ?_
       .exact dG6 ((mH ddD vs 4 ddE _ aJ0 bI5 (by decide) (by kernel_rfl)).trans e3) ((mH ddD vs 6 ddE _ aJ0 bI5 (by decide) (by kernel_rfl)).trans e5)
       .refine(SD _ hLW).mono ?_;rintro r W2⟨a3,m3,c3',rfl,hO3,hb⟩;exact⟨_,rfl,hK _ _ ⟨_,mrk T' W.heap.size 0,rfl,⟨a3,m3,c3',rfl,OwnLv.seen hO3 (fun i=>by have:=eZ zd i;omega) (jM _ _)⟩,fun k=>bJ hb T' 0 k,hb.size,hB0.trans (hb.mono hB0.size),hB1.below hb 0,hB2.trans (Stp.below o cs hb 0)⟩⟩
     case last=>intro vs T2 W hB hR';obtain⟨_,hB1,hB2⟩:=hB;have e3:vs 4=Z s.la s.ln s.lc:=hR' 4 (by simp[ddE]);have e5:vs 6=I J p:=hR' 6 (by simp[ddE]);obtain⟨a3,m3,c3',e7,hL3⟩:=hR' 7 (by simp[ddE]);clear hR';dsimp only[dV,ddE,List.foldl];simp only[Act.put,ddD,List.setIfInBounds_toArray,List.set_cons_zero,List.set_cons_succ];rw[e3,e5,e7];clear e3 e5 e7 vs;have hset:=EgX.set (i:=1) (v:=Z a3 m3 c3') hB1.box hB1.cell hB1.tag (hB1.own.newLv (c:=c3') hL3 zd) (by decide) rfl;have y1:=hB1.all.2.1;have f1:=hB1.frz (o+1);refine R2 8 9 ?_;refine R6 10 (fun K hK=>?_);go_simp;refine hK.out _ _ trivial (fun hH=>?_);clear hK K;refine R7 ?_;go_wp2;go_ret;exact⟨0,_,_,_,_,rfl,hset.1,(hSR.trans hB2).trans hset.2,⟨rfl,by(try simp only);omega,by(try simp only);omega,by(try simp only);omega,z'⟩,fun h0=>absurd rfl h0⟩
 have e8:(k==8)=F':=by simpa using k8
 by_cases k9:k=9
 .subst k9;go_wp2_with fail
  refine(SP _ hLA).mono ?_;rintro r W3⟨a3,m3,c3',rfl,hO3,hb3⟩;have hX3:=hXA.below hb3 0;have hS3:=hSA.trans (Stp.below o cs hb3 0);have hset:=EgX.set (i:=1) (v:=Z a3 m3 c3') hX3.box hX3.cell hX3.tag (hX3.own.newLv (c:=c3') (OwnLv.seen hO3 (fun i=>by have:=eZ zp i;omega) (jM _ _)) zp) (by decide) rfl;have y1:=hX3.all.2.1;have f3:=hX3.frz (o+1);have hbl3:=hX3.lt;go_wp2;go_ret;exact⟨0,_,_,_,_,rfl,hset.1,hS3.trans hset.2,⟨rfl,by(try simp only);omega,by(try simp only);omega,by(try simp only);omega,z'⟩,fun h0=>absurd rfl h0⟩
 have e9:(k==9)=F':=by simpa using k9
 by_cases k10:k=10
 .subst k10;go_wp2_with fail
  refine(SO _ hLA).mono ?_;rintro r W3⟨a3,m3,c3',rfl,hm3,hO3,hb3⟩;have hX3:=hXA.below hb3 0;have hS3:=hSA.trans (Stp.below o cs hb3 0);have hset:=EgX.set (i:=6) (v:=Z (Y ⟨a3,0,O⟩) m3 c3') hX3.box hX3.cell hX3.tag (hX3.own.newIx (c:=c3') (kL hO3 (jM _ _)) (by omega)) (by decide) rfl;have y6:=hX3.all.2.2.2.2.2.2.1;have f3:=hX3.frz (o+6);have hbl3:=hX3.lt;go_upto_region 14 with fail
  have hX4:=hset.1;have hS4:=hS3.trans hset.2;clear hset y6 f3 hbl3;generalize W3.setCell ⟨b,o+6,O⟩ (Z (Y ⟨a3,0,O⟩) m3 c3')=W4 at*;have y7:=hX4.all.2.2.2.2.2.2.2.1;have f4:=hX4.frz (o+7);have hbl4:=hX4.lt;have hE:EgO W4 0 _ {s with xa:=Y ⟨a3,0,O⟩,xn:=m3,xc:=c3'} {({e with ix:=qQ e.lv}:Eng)with bt:=A'}:=⟨hX4.own.base,hX4.own.lv,hX4.own.lk,hX4.own.ix,hX4.own.tx,hX4.own.su,hX4.own.lo,hX4.own.cm,hX4.own.ac,hX4.own.bsu,hX4.own.blo,hX4.own.n1,hX4.own.n2,hX4.own.n3,hX4.own.n4,hX4.own.n5,hX4.own.n6,hX4.own.n7,hX4.own.n8,hX4.own.n9⟩
  have hset:=EgX.set (i:=7) (v:=X A') hX4.box hX4.cell hX4.tag hE (by decide) rfl;go_wp2;go_ret;exact⟨0,_,_,_,_,rfl,hset.1,hS4.trans hset.2,⟨rfl,by(try simp only);omega,by(try simp only);omega,by(try simp only);omega,z'⟩,fun h0=>absurd rfl h0⟩
 have e10:(k==10)=F':=by simpa using k10
 by_cases k6:k=6
 .subst k6;go_wp2_with fail
  refine(aZ5 tx i _ _ b o _ t _ _ hXA hi HTX.out ht hlk (by omega) hmn).mono ?_;rintro r W2⟨rfl,T2,cs2,s2,e2,hX2,hS2,hF2⟩;go_wp2;go_ret;exact⟨0,T2,cs2,s2,e2,rfl,hX2,hSA.trans hS2,hF2,fun h0=>absurd rfl h0⟩
 have e6:(k==6)=F':=by simpa using k6
 by_cases k7:k=7
 .subst k7;go_wp2_with fail
  refine(aK0 tx i _ _ b o _ t _ _ hXA hi HTX.out ht hlv hlk hbf (by omega) (by omega)).mono ?_;rintro r W2⟨rfl,T2,cs2,s2,e2,hX2,hS2,hC2,_⟩;go_wp2;go_ret;exact⟨0,T2,cs2,s2,e2,rfl,hX2,hSA.trans hS2,⟨hC2.tn,by have:=hC2.on;have:=hC2.sn;omega,by have:=hC2.mn;omega,by have:=hC2.xn;omega,by have:=hC2.an;omega⟩,fun h0=>absurd rfl h0⟩
 have e7:(k==7)=F':=by simpa using k7
 go_wp2;go_ret;exact⟨0,_,_,s,e,rfl,hXA,hSA,EgF.refl s,fun h0=>absurd rfl h0⟩
theorem cQ0{base:Nat}{e:TypeId}{size cap m:Nat}(h:w.ownsRow base e size (Z (Y ⟨g,0,O⟩) n cap) n xs)(hm:m<=n):w.ownsRow base e size (Z (Y ⟨g,0,O⟩) m cap) m (xs.take (m*size)):=by
 obtain⟨hl,h|⟨g',cap',cur,hv,hb,hc,hn,hcap,hs,ht⟩⟩:=h
 .simp at h
 .simp only[Value.slice.injEq,Option.some.injEq,Addr.mk.injEq,and_true]at hv;obtain⟨rfl,_,rfl⟩:=hv;have h1:m*size<=n*size:=Nat.mul_le_mul_right _ hm;refine⟨by rw[List.length_take];omega,.inr ⟨g,cap,cur,rfl,hb,hc,by omega,hcap,hs,?_⟩⟩;rw[<-ht,List.take_take,Nat.min_eq_left h1]
theorem AcO.place{c:Nat}(h:AcO w H T (Z a n c) n ts us)(hn:0<n):∃tb,a=Y ⟨tb,0,O⟩:=by
 obtain⟨hl,⟨cs,hr,hc⟩,_,_⟩:=h;rcases hr.1.2 with⟨_,h0⟩|⟨g,cap,cur,hv,_⟩
 .omega
 .simp only[Value.slice.injEq]at hv;exact⟨g,hv.1⟩
theorem qW(ts:List Ac)(n i:Nat):eK (ts.take n) i=if i<n then eK ts i else Ac.zero:=by
 unfold eK;rw[List.getD_eq_getElem?_getD,List.getD_eq_getElem?_getD,List.getElem?_take];split
 .rfl
 .rfl
theorem EgX.dropAct{o:Nat}(h:EgX w T b o cs t s e)(hn:s.an=n+1):
  EgX (w.setCell ⟨b,o+9,O⟩ (Z s.aa n s.ac)) T b o (cs.setIfInBounds (o+9) (Z s.aa n s.ac)) t {s with an:=n} {e with ac:=e.ac.take n}/\Stp T T w (w.setCell ⟨b,o+9,O⟩ (Z s.aa n s.ac)) o cs (cs.setIfInBounds (o+9) (Z s.aa n s.ac)):=by
 obtain⟨us,hA⟩:=h.own.ac;obtain⟨tb,hp⟩:=hA.place (by omega);have hN:AcO w 0 T (Z s.aa n s.ac) n (e.ac.take n) us:=by
  obtain⟨hl,⟨ys,hr,hc⟩,ha,hf⟩:=hA;rw[hp]at hr⊢;refine⟨by rw[List.length_take];omega,⟨ys.take (n*6),⟨cQ0 hr.1 (by omega),hr.2⟩,fun i j hi hj=>?_⟩,fun i hi=>?_,fun i=>?_⟩
  .rw[List.getElem?_take_of_lt (by omega),qW,if_pos hi];exact hc i j (by omega) hj
  .rw[qW,if_pos hi];exact ha i (by omega)
  .rw[qW];split
   .exact hf i
   .show([]:List Int).length<=_;simp
 have hE:=h.own.newAc (fun k _ _ _ _=>Kp.refl k T w) hN (by have:=h.own.n9;omega);exact EgX.set (i:=9) h.box h.cell h.tag hE (by decide) rfl
theorem lF{u0 u1 u2 u3 u4 u5 u6 u7 u8 u9 u10 u11 u12 u13 u14:Value}(v0 v1 v2 v3 v4 v5 v6 v7 v8 v9 v10 v11 v12 v13 v14:Value)(h:W.heap[g]? =Y (M #[u0,u1,u2,u3,u4,u5,u6,u7,u8,u9,u10,u11,u12,u13,u14] t (0,0))):
  (((((((((((((((W.setCell ⟨g,0,O⟩ v0).setCell ⟨g,1,O⟩ v1).setCell ⟨g,2,O⟩ v2).setCell ⟨g,3,O⟩ v3).setCell ⟨g,4,O⟩ v4).setCell ⟨g,5,O⟩ v5).setCell ⟨g,6,O⟩ v6).setCell ⟨g,7,O⟩ v7).setCell ⟨g,8,O⟩ v8).setCell ⟨g,9,O⟩ v9).setCell ⟨g,10,O⟩ v10).setCell ⟨g,11,O⟩ v11).setCell ⟨g,12,O⟩ v12).setCell ⟨g,13,O⟩ v13).setCell ⟨g,14,O⟩ v14).heap[g]? =Y (M #[v0,v1,v2,v3,v4,v5,v6,v7,v8,v9,v10,v11,v12,v13,v14] t (0,0))/\W.grownBy (((((((((((((((W.setCell ⟨g,0,O⟩ v0).setCell ⟨g,1,O⟩ v1).setCell ⟨g,2,O⟩ v2).setCell ⟨g,3,O⟩ v3).setCell ⟨g,4,O⟩ v4).setCell ⟨g,5,O⟩ v5).setCell ⟨g,6,O⟩ v6).setCell ⟨g,7,O⟩ v7).setCell ⟨g,8,O⟩ v8).setCell ⟨g,9,O⟩ v9).setCell ⟨g,10,O⟩ v10).setCell ⟨g,11,O⟩ v11).setCell ⟨g,12,O⟩ v12).setCell ⟨g,13,O⟩ v13).setCell ⟨g,14,O⟩ v14) (Y g):=by
 have h0:=heap_setCell_same _ g 0 _ t v0 h;rw[show(#[u0,u1,u2,u3,u4,u5,u6,u7,u8,u9,u10,u11,u12,u13,u14]:Array Value).setIfInBounds 0 v0=#[v0,u1,u2,u3,u4,u5,u6,u7,u8,u9,u10,u11,u12,u13,u14]from rfl]at h0;have h1:=heap_setCell_same _ g 1 _ t v1 h0;rw[show(#[v0,u1,u2,u3,u4,u5,u6,u7,u8,u9,u10,u11,u12,u13,u14]:Array Value).setIfInBounds 1 v1=#[v0,v1,u2,u3,u4,u5,u6,u7,u8,u9,u10,u11,u12,u13,u14]from rfl]at h1;have h2:=heap_setCell_same _ g 2 _ t v2 h1;rw[show(#[v0,v1,u2,u3,u4,u5,u6,u7,u8,u9,u10,u11,u12,u13,u14]:Array Value).setIfInBounds 2 v2=#[v0,v1,v2,u3,u4,u5,u6,u7,u8,u9,u10,u11,u12,u13,u14]from rfl]at h2;have h3:=heap_setCell_same _ g 3 _ t v3 h2;rw[show(#[v0,v1,v2,u3,u4,u5,u6,u7,u8,u9,u10,u11,u12,u13,u14]:Array Value).setIfInBounds 3 v3=#[v0,v1,v2,v3,u4,u5,u6,u7,u8,u9,u10,u11,u12,u13,u14]from rfl]at h3;have h4:=heap_setCell_same _ g 4 _ t v4 h3;rw[show(#[v0,v1,v2,v3,u4,u5,u6,u7,u8,u9,u10,u11,u12,u13,u14]:Array Value).setIfInBounds 4 v4=#[v0,v1,v2,v3,v4,u5,u6,u7,u8,u9,u10,u11,u12,u13,u14]from rfl]at h4;have h5:=heap_setCell_same _ g 5 _ t v5 h4;rw[show(#[v0,v1,v2,v3,v4,u5,u6,u7,u8,u9,u10,u11,u12,u13,u14]:Array Value).setIfInBounds 5 v5=#[v0,v1,v2,v3,v4,v5,u6,u7,u8,u9,u10,u11,u12,u13,u14]from rfl]at h5;have h6:=heap_setCell_same _ g 6 _ t v6 h5;rw[show(#[v0,v1,v2,v3,v4,v5,u6,u7,u8,u9,u10,u11,u12,u13,u14]:Array Value).setIfInBounds 6 v6=#[v0,v1,v2,v3,v4,v5,v6,u7,u8,u9,u10,u11,u12,u13,u14]from rfl]at h6;have h7:=heap_setCell_same _ g 7 _ t v7 h6;rw[show(#[v0,v1,v2,v3,v4,v5,v6,u7,u8,u9,u10,u11,u12,u13,u14]:Array Value).setIfInBounds 7 v7=#[v0,v1,v2,v3,v4,v5,v6,v7,u8,u9,u10,u11,u12,u13,u14]from rfl]at h7;have h8:=heap_setCell_same _ g 8 _ t v8 h7;rw[show(#[v0,v1,v2,v3,v4,v5,v6,v7,u8,u9,u10,u11,u12,u13,u14]:Array Value).setIfInBounds 8 v8=#[v0,v1,v2,v3,v4,v5,v6,v7,v8,u9,u10,u11,u12,u13,u14]from rfl]at h8;have h9:=heap_setCell_same _ g 9 _ t v9 h8;rw[show(#[v0,v1,v2,v3,v4,v5,v6,v7,v8,u9,u10,u11,u12,u13,u14]:Array Value).setIfInBounds 9 v9=#[v0,v1,v2,v3,v4,v5,v6,v7,v8,v9,u10,u11,u12,u13,u14]from rfl]at h9;have h10:=heap_setCell_same _ g 10 _ t v10 h9;rw[show(#[v0,v1,v2,v3,v4,v5,v6,v7,v8,v9,u10,u11,u12,u13,u14]:Array Value).setIfInBounds 10 v10=#[v0,v1,v2,v3,v4,v5,v6,v7,v8,v9,v10,u11,u12,u13,u14]from rfl]at h10;have h11:=heap_setCell_same _ g 11 _ t v11 h10;rw[show(#[v0,v1,v2,v3,v4,v5,v6,v7,v8,v9,v10,u11,u12,u13,u14]:Array Value).setIfInBounds 11 v11=#[v0,v1,v2,v3,v4,v5,v6,v7,v8,v9,v10,v11,u12,u13,u14]from rfl]at h11;have h12:=heap_setCell_same _ g 12 _ t v12 h11;rw[show(#[v0,v1,v2,v3,v4,v5,v6,v7,v8,v9,v10,v11,u12,u13,u14]:Array Value).setIfInBounds 12 v12=#[v0,v1,v2,v3,v4,v5,v6,v7,v8,v9,v10,v11,v12,u13,u14]from rfl]at h12;have h13:=heap_setCell_same _ g 13 _ t v13 h12;rw[show(#[v0,v1,v2,v3,v4,v5,v6,v7,v8,v9,v10,v11,v12,u13,u14]:Array Value).setIfInBounds 13 v13=#[v0,v1,v2,v3,v4,v5,v6,v7,v8,v9,v10,v11,v12,v13,u14]from rfl]at h13;have h14:=heap_setCell_same _ g 14 _ t v14 h13;rw[show(#[v0,v1,v2,v3,v4,v5,v6,v7,v8,v9,v10,v11,v12,v13,u14]:Array Value).setIfInBounds 14 v14=#[v0,v1,v2,v3,v4,v5,v6,v7,v8,v9,v10,v11,v12,v13,v14]from rfl]at h14;exact⟨h14,cN (cN (cN (cN (cN (cN (cN (cN (cN (cN (cN (cN (cN (cN nI)))))))))))))⟩
def resR(c:Int)(wt:Bool)(id:Int)(x y:Value)(s:EgS)(bt:Bool):Array Value:=#[I J c,X wt,I J id,x,y,Z s.ba s.bn s.bc,Z s.la s.ln s.lc,Z s.ka s.kn s.kc,Z s.ta s.tn s.tc,Z s.sa s.sn s.sc,Z s.oa s.on s.oc,Z s.xa s.xn s.xc,X bt,Z s.ma s.mn s.mc,Z s.aa s.an s.ac]
structure Fore(cs:Array Value)(c:Int)(wt:Bool)(x y:Value):Prop where
 c0:cs[0]? =Y (I J c)
 c1:cs[1]? =Y (X wt)
 c2:cs[2]? =Y (I J 0)
 c3:cs[3]? =Y x
 c4:cs[4]? =Y y
 sz:cs.size=15
theorem Fore.stp{T':Nat->Nat}{cs':Array Value}(h:Fore cs c wt x y)(hs:Stp T T' w w' 5 cs cs'):Fore cs' c wt x y:=
 ⟨(hs.rest 0 (by omega)).trans h.c0,(hs.rest 1 (by omega)).trans h.c1,(hs.rest 2 (by omega)).trans h.c2,(hs.rest 3 (by omega)).trans h.c3,(hs.rest 4 (by omega)).trans h.c4,hs.same.trans h.sz⟩
theorem Fore.lit(h:Fore cs c wt x y)(hX:EgX W T b 5 cs t s e):cs=resR c wt 0 x y s e.bt:=by
 refine Array.ext_getElem? fun i=>?_;have hc:=fun j hj=>hX.cell j hj;match i with
 |0=>exact h.c0
 |1=>exact h.c1
 |2=>exact h.c2
 |3=>exact h.c3
 |4=>exact h.c4
 |5=>exact hc 0 (by decide)
 |6=>exact hc 1 (by decide)
 |7=>exact hc 2 (by decide)
 |8=>exact hc 3 (by decide)
 |9=>exact hc 4 (by decide)
 |10=>exact hc 5 (by decide)
 |11=>exact hc 6 (by decide)
 |12=>exact hc 7 (by decide)
 |13=>exact hc 8 (by decide)
 |14=>exact hc 9 (by decide)
 |i+15=>rw[Array.getElem?_eq_none (by rw[h.sz];omega),Array.getElem?_eq_none (by simp[resR])]
def EngQ(Q':Nat)(w:World)(r:Ending)(w':World):Prop:=
 ∃c wt id xa xn xc ya yn yc s' bt e' T',r=R' (U (resR c wt id (Z xa xn xc) (Z ya yn yc) s' bt))/\bt=e'.bt/\EgO w' 0 T' s' e'/\Past w T' w'/\s'.mn<=Q'/\s'.tn<=21/\s'.an<=250/\s'.sn+s'.on<=100000
def EgS.none:EgS:=⟨.none,0,0,.none,0,0,.none,0,0,.none,0,0,.none,0,0,.none,0,0,.none,0,0,.none,0,0,.none,0,0⟩
def Ch.Eng.none:Eng:=⟨[],[],[],[],[],[],[],F',[],[]⟩
theorem pW(w:World)(T:Nat->Nat)(k:Nat)(t:TypeId)(sz:Nat):OwnT w H T k t sz (Z .none 0 0) 0 []:=⟨World.ownsRow_nil _ _ _ _,fun g hg=>by simp[Value.ownBlock]at hg⟩
theorem EgO.none(w:World)(T:Nat->Nat):EgO w 0 T EgS.none Eng.none:=
 ⟨⟨rfl,fun h=>absurd h (by decide)⟩,⟨rfl,[],⟨rfl,fun h=>absurd h (by decide)⟩,fun i hi=>absurd hi (by simp[EgS.none])⟩,⟨rfl,fun h=>absurd h (by decide)⟩,⟨rfl,fun h=>absurd h (by decide)⟩,
  ⟨fun _=>Z .none 0 0,⟨rfl,⟨[],pW _ _ _ _ _,fun i j hi=>absurd hi (by simp[EgS.none])⟩,fun i hi=>absurd hi (by simp[EgS.none]),fun i=>by simp[aQ,Eng.none,Tx.zero]⟩⟩,pW _ _ _ _ _,pW _ _ _ _ _,pW _ _ _ _ _,
  ⟨fun _=>Z .none 0 0,⟨rfl,⟨[],pW _ _ _ _ _,fun i j hi=>absurd hi (by simp[EgS.none])⟩,fun i hi=>absurd hi (by simp[EgS.none]),fun i=>by simp[eK,Eng.none,Ac.zero]⟩⟩,fun i=>by simp[Eng.none],fun i=>by simp[Eng.none],by decide,by decide,by decide,by decide,by decide,by decide,by decide,by decide,by decide⟩
theorem EngQ.bad(Q':Nat)(c:Int)(h:Below w.heap.size w w'):EngQ Q' w (R' (U (dU c))) w':=
 ⟨c,F',0,.none,0,0,.none,0,0,EgS.none,F',Eng.none,fun _=>8,rfl,rfl,EgO.none _ _,⟨h,fun _ _=>rfl⟩,Nat.zero_le _,by decide,by decide,by decide⟩
theorem EgO.sizes(h:EgO w 0 T s e):s.tn=e.tx.length/\s.sn=e.su.length/\s.on=e.lo.length/\s.xn=e.ix.length/\s.mn=e.cm.length/\s.an=e.ac.length:=by obtain⟨us,ht⟩:=h.tx;obtain⟨vs,ha⟩:=h.ac;have h1:=h.su.1.1;have h2:=h.lo.1.1;have h3:=h.cm.1.1;have h4:=h.ix.1;rw[iF]at h4;simp only[bts,icells,List.length_map]at h1 h2 h3;exact⟨ht.len.symm,by omega,by omega,by omega,by omega,ha.len.symm⟩
structure Ch.Ripe(e:Ch.Eng):Prop where
 fair:Ch.Fair e.tx.length e
 wal:e.su.length+e.lo.length<=4000
 ix:e.ix.length<=240
 an:e.ac.length<=220
theorem Ch.Good.ripe(h:Ch.Good e):Ripe e:=by
 refine⟨h.fair,?_,?_,h.an⟩
 .rcases Nat.lt_or_ge 4000 (e.su.length+e.lo.length)with h1|h1
  .have:=h.wal;rw[sA h1]at this;cases this
  .exact h1
 .rcases Nat.lt_or_ge 240 e.ix.length with h1|h1
  .have:=h.ix;rw[bK6 h1]at this;cases this
  .exact h1
theorem aW5{q v:Int}(h:aN k p q v=0):(0<=p/\p<=99)/\(k=1\/k=2\/k=3\/k=4\/k=5\/k=6\/k=7\/k=8\/k=9\/k=10):=by
 unfold aN at h;split at h
 .cases hin:inB p 0 99
  .rw[if_pos hin]at h;cases h
  .exact⟨fM hin,by omega⟩
 .split at h
  .cases hin:inB p 0 99
   .rw[if_pos hin]at h;cases h
   .exact⟨fM hin,by omega⟩
  .split at h
   .cases hin:inB p 0 99
    .rw[if_pos hin]at h;cases h
    .exact⟨fM hin,by omega⟩
   .split at h
    .split at h
     .cases h
     .split at h
      .exact⟨by omega,by omega⟩
      .cases h
    .split at h
     .split at h
      .exact⟨by omega,by omega⟩
      .cases h
     .cases h
theorem bM6(hp:0<=p/\p<=99):∀j,j<(eH k p).length->inB ((eH k p).getD j Hold.zero).t 0 100=A'/\inB ((eH k p).getD j Hold.zero).m 1 5=A':=by
 have hz:inB 0 0 100=A':=by decide
 have hp1:inB (p+1) 0 100=A':=by unfold inB;simp;omega
 have H:∀h∈eH k p,inB h.t 0 100=A'/\inB h.m 1 5=A':=by
  intro h hm;unfold eH at hm;split at hm
  .simp only[List.mem_cons,List.not_mem_nil,or_false]at hm;rcases hm with rfl|rfl
   .exact⟨hz,by decide⟩
   .exact⟨hp1,rfl⟩
  .split at hm
   .simp only[List.mem_cons,List.not_mem_nil,or_false]at hm;rcases hm with rfl|rfl
    .exact⟨hz,by decide⟩
    .exact⟨hp1,rfl⟩
   .split at hm
    .rw[List.mem_singleton.1 hm];exact⟨hz,by decide⟩
    .split at hm
     .rw[List.mem_singleton.1 hm];exact⟨hz,by decide⟩
     .cases hm
 intro j hj;have hg:(eH k p).getD j Hold.zero=(eH k p)[j]:=by simp[List.getD,hj]
 rw[hg];exact H _ (List.getElem_mem hj)
def lenOf(v:Option Value):Nat:=match v with|Y (Z _ n _)=>n|_=>0
theorem cK1{W':World}{B:Nat}(h:∀x,B<=x->x<W.heap.size->W'.heap[x]? =W.heap[x]? /\T x=0):cK9 (gT (fun x=>decide (B<=x)) W) (gT (Ice T) W'):=by intro b o v hc;obtain⟨h1,h2⟩:=gM hc;have h3:=h b (by simpa using h2) (aD h1);refine kI ?_ (by simp[Ice,h3.2]);rw[World.cell?_of_block (w:=W) (w':=W') h3.1];exact h1
end Go.Proofs.YtpbbokalojdooaaGreat
