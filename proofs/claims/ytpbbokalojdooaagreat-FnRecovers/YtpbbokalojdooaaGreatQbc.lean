import Derived.Test.YtpbbokalojdooaaGreatQbb
namespace Go.Proofs.YtpbbokalojdooaaGreat
open Go.RowKit Ch Go.Proofs.Tryz
set_option linter.unusedSimpArgs false
set_option linter.unusedVariables false
set_option maxRecDepth 20000
set_option maxHeartbeats 8000000
open Value renaming int->I,slice->Z,bool->X,agg->U
open IntKind renaming i64->J
open Option renaming none->O,some->Y
open Obj renaming cells->M
open Ending renaming returned->R'
open Bool renaming true->A',false->F'
variable {a:Act} {K:Act->World->Prop} {ops:Array Oper} {Q:Exit->Act->World->Prop} {F:Fence} {hs:List Hold} {rest:List Oper} {ts:List Tx} {cs news xs:List Value} {H bytes g k n size:Nat} {T:Nat->Nat} {us:Nat->Value} {o:Oper} {A:Option Addr} {row:Option Nat} {e e' t tn:TypeId} {i:TypeInfo} {v x z:Value} {W W' w w':World}
section
open Go.Shelf
attribute [local go_sem] Oper.semAt_some
theorem aS7{d:Nat}(s x:Operand)
  (B:Nat) (v:Value) (n:Nat) (rs:List Rec) (r:Rec) (hn:n<=1048576)
  (ho:o.op= .call {callee:=.builtin .append,args:=#[s,x],argTypes:=#[31,31]}) (hgd:o.guard=O)
  (hs:a.eval s=v) (hx:∃h c t,a.eval x=Z (Y ⟨h,0,O⟩) 1 c/\w.heap[h]? =Y (M (c7 r).toArray t (0,0)))
  (hown:w.ownsRow B 79 7 v n (rc7 rs)) (hbase:B<=w.heap.size)
  (hK:∀g' cp' w',w'.ownsRow B 79 7 (Z (Y ⟨g',0,O⟩) (n+1) cp') (n+1) (rc7 (rs++[r]))->Below B w w'->KeepsOthers w w'->wpListIn F d prog ops Q rest (a.put o.dst (Z (Y ⟨g',0,O⟩) (n+1) cp')) w'):
  wpListIn F d prog ops Q (o::rest) a w:=by
 obtain⟨h,c,t,hx,hblk⟩:=hx;obtain⟨i0,hi,hz0,hz1,hz2⟩:=info_parts Tryz.info79;refine wpListIn_append_own w hgd s x 31 ho B 79 i0 _ 7 56 underlying31 hi hz0 hz1 hz2 rfl (by omega) v n (rc7 rs) hs hown ⟨h,0,O⟩ 1 c (c7 r) hx rfl (World.news_of_block hblk) (by simp[c7,Value.oneCell']) (by unfold maxLen;omega) (by omega) hbase ?_;intro v' w' hown' hgrow _;rw[<-aN8]at hown';obtain⟨g',cap',rfl⟩:=ownsRow_succ hown';refine hK g' cap' w' hown' (u'.grown hgrow hbase (fun k hk=>?_)) (KeepsOthers.of_grownBy hgrow (fun j ob hj hob=>?_))
 .rcases hown.2 with⟨hv,_⟩|⟨g,cap',cur,hv,hb,_⟩
  .subst hv;simp[Value.ownBlock]at hk
  .subst hv;simp[Value.ownBlock]at hk;omega
 .rcases hown.2 with⟨hv,_⟩|⟨g,cap',cur,hv,hb,hh,_⟩
  .subst hv;simp[Value.ownBlock]at hj
  .subst hv;simp[Value.ownBlock]at hj;subst hj;rw[hh]at hob;cases hob;rfl
theorem bP5{u0 u1 u2:Value}(h:W.heap[g]? =Y (M #[u0,u1,u2] t (0,0))):
  W.cell? ⟨g,0,O⟩=Y u0/\W.cell? ⟨g,1,O⟩=Y u1/\W.cell? ⟨g,2,O⟩=Y u2:=
 ⟨cell_of_row _ _ _ _ _ _ h,cell_of_row _ _ _ _ _ _ h,cell_of_row _ _ _ _ _ _ h⟩
def sR(pre:List (Int×Rec)):Int:=(pre.getLast?.map (·.1)).getD 0
theorem tK(pre:List (Int×Rec))(x:Int×Rec):sR (pre++[x])=x.1:=by simp[sR]
theorem aG2(rs:List Rec):sR (gS 0 rs)=Ch.lenOf rs:=by
 rcases List.eq_nil_or_concat rs with rfl|⟨rs,r,rfl⟩
 .rfl
 .rw[List.concat_eq_append,yQ,tK,pD];simp[Ch.lenOf]
theorem bN5{base:Nat}(h:W.ownsRow base e size v n xs)(hg:W.grownBy W' row)(hr:∀r,row=Y r->∃o:Obj,W.heap[r]? =Y o/\o.isCells=F'):W'.ownsRow base e size v n xs:=by
 refine aK h hg (fun g hv hrow=>?_);obtain⟨o,ho,hc⟩:=hr g hrow;rcases h.2 with⟨hv',_⟩|⟨g',cap',cur,hv',hb,hh,_⟩
 .subst hv';simp[Value.ownBlock]at hv
 .subst hv';simp[Value.ownBlock]at hv;subst hv;rw[hh]at ho;cases ho;cases hc
theorem xJ{cs:Array Value}(h:W.heap[g]? =Y (M cs t (0,0)))(hg:W.grownBy W' row)(hr:∀r,row=Y r->∃o:Obj,W.heap[r]? =Y o/\o.isCells=F'):W'.heap[g]? =Y (M cs t (0,0)):=by
 have hlt:g<W.heap.size:=(Array.getElem?_eq_some_iff.1 h).1;rw[hg.block g hlt (fun e=>?_)]
 .exact h
 .obtain⟨o,ho,hc⟩:=hr g e.symm;rw[h]at ho;cases ho;cases hc
theorem bA5(a:Option Addr)(n cap:Nat)(w:World)(hn:4000<n)(hm:n<=9223372036854775807):
  Calls prog 9 #[Z a n cap] w fun e w'=>e=R' (U #[I J 2,I J 0,Z O 0 0])/\Below w.heap.size w w':=by
 have i1:(4000:Int)<(n:Int):=by omega
 refine(callsIn_wide (n:=6)).1 ?_;refine callsIn_of_wp_marks func9 rfl trivial ?_ rfl;simp only[ntmps9,List.size_toArray,List.length_cons,List.length_nil,Nat.reduceAdd,Nat.reduceSub,Array.replicate_succ,Array.replicate_zero,List.push_toArray,List.append_toArray,List.nil_append,List.cons_append];gi_wp2_with fail
 refine⟨U #[I J 2,I J 0,Z O 0 0],?_,rfl,q'⟩;simp[results,Tryz.results9,go_sem]
set_option maxRecDepth 100000 in
set_option maxHeartbeats 4000000 in
theorem aC8(a:Option Addr)(n cap:Nat)(zs:List Int)(w:World)(h:CellsAt w a n (bts zs))(hb:IsB zs)(hn:n<=4000)(hcap:n<=cap):
  Calls prog 9 #[Z a n cap] w fun e w'=>∃a' c',e=R' (U #[I J 0,I J (fJ zs),Z a' (aU zs).length c'])/\w'.ownsRow w.heap.size 79 7 (Z a' (aU zs).length c') (aU zs).length (rc7 (aU zs))/\Below w.heap.size w w':=by
 have hrl:5*(aU zs).length<=n:=Nat.le_trans (pZ zs) (by have:=rZ zs;have:=h.len.out;omega);have i1:¬(4000:Int)<(n:Int):=by omega
 refine(callsIn_wide (n:=6)).1 ?_;refine callsIn_of_wp_marks func9 rfl trivial ?_ rfl;simp only[ntmps9,List.size_toArray,List.length_cons,List.length_nil,Nat.reduceAdd,Nat.reduceSub,Array.replicate_succ,Array.replicate_zero,List.push_toArray,List.append_toArray,List.nil_append,List.cons_append];gi_wp2_with fail
 refine⟨trivial,(callsIn_wide.2 (cB2 a n cap _)).mono ?_⟩;rintro e w'⟨rfl,rfl⟩;gi_wp2_with fail
 have hB0:Below w.heap.size w (((w.alloc (M #[I J 0,I J 0,Z O 0 0] 33)).alloc (M #[I J 0,I J 0,Z O 0 0] 33)).alloc (M #[Z a n cap] 22)):=by
  refine Below.alloc (Below.alloc (Below.alloc (Below.refl _ w) z' _) ?_ _) ?_ _
  .simp
  .simp;omega
 have hcB:(((w.alloc (M #[I J 0,I J 0,Z O 0 0] 33)).alloc (M #[I J 0,I J 0,Z O 0 0] 33)).alloc (M #[Z a n cap] 22)).cell? ⟨w.heap.size+2,0,O⟩=Y (Z a n cap):=by have:=cell_of_row _ (w.heap.size+2) 0 #[Z a n cap] 22 (0,0) (aO (w:=(w.alloc (M #[I J 0,I J 0,Z O 0 0] 33)).alloc (M #[I J 0,I J 0,Z O 0 0] 33)) (by simp));exact this
 have hR0:(((w.alloc (M #[I J 0,I J 0,Z O 0 0] 33)).alloc (M #[I J 0,I J 0,Z O 0 0] 33)).alloc (M #[Z a n cap] 22)).heap[w.heap.size]? =Y (M #[I J 0,I J 0,Z O 0 0] 33 (0,0)):=by
  refine(dJ ?_).trans ((dJ ?_).trans (aO rfl))
  .simp;omega
  .simp
 have hR1:(((w.alloc (M #[I J 0,I J 0,Z O 0 0] 33)).alloc (M #[I J 0,I J 0,Z O 0 0] 33)).alloc (M #[Z a n cap] 22)).heap[w.heap.size+1]? =Y (M #[I J 0,I J 0,Z O 0 0] 33 (0,0)):=by
  refine(dJ ?_).trans (aO ?_)
  .simp
  .simp
 have hs0:(((w.alloc (M #[I J 0,I J 0,Z O 0 0] 33)).alloc (M #[I J 0,I J 0,Z O 0 0] 33)).alloc (M #[Z a n cap] 22)).heap.size=w.heap.size+3:=by simp
 generalize hW0:(((w.alloc (M #[I J 0,I J 0,Z O 0 0] 33)).alloc (M #[I J 0,I J 0,Z O 0 0] 33)).alloc (M #[Z a n cap] 22))=W0 at*;refine wpIn_rangeFunc_ownH rfl (by decide) (gf:=75) (lb:=#[.pointer (Y ⟨w.heap.size+2,0,O⟩)]) rfl trivial (enters_of func75 (by kernel_rfl) rfl)
  (cB3 5 (w.heap.size+2) (by decide) a n cap zs w W0 h hb (by omega) hcap hB0 hcB) KpB.t (KpB.b (by omega)) u' (fun _=>rfl)
  (fun pre W=>(∃a' c',W.heap[w.heap.size+1]? =Y (M #[I J 0,I J (sR pre),Z a' pre.length c'] 33 (0,0))/\W.ownsRow (w.heap.size+3) 79 7 (Z a' pre.length c') pre.length (rc7 (pre.map (·.2))))/\W.heap[w.heap.size]? =Y (M #[I J 0,I J 0,Z O 0 0] 33 (0,0))/\w.heap.size+3<=W.heap.size/\Below w.heap.size w W)
  (fun _ _ _=>False)
  ?hI (fun _ _ _ _ _ hs _ _=>hs)
  ⟨⟨O,0,hR1,World.ownsRow_nil _ _ _ _⟩,hR0,by omega,hB0⟩
  (fun x a' W=>∃Bx,w.heap.size+3<=Bx/\W.heap[Bx]? =Y (M (c7 x.2).toArray 79 (0,0))/\a'={tmps:=#[Z a n cap,undef,.pointer (Y ⟨w.heap.size,0,O⟩),.pointer (Y ⟨w.heap.size+1,0,O⟩),I J x.1,.pointer (Y ⟨Bx,0,O⟩),Z a n cap,I J n,X F',undef,Z a n cap,.func (.func 75) #[] #[.pointer (Y ⟨w.heap.size+2,0,O⟩)],I J x.1,U #[I J x.2.kd,I J x.2.tx,I J x.2.ky,X x.2.hd,I J x.2.ol,X x.2.hs,I J x.2.nw],undef,undef,undef,undef,undef,undef,undef,undef,undef],defers:=[]})
  ?hAx ?assign ?body ?done ?stop
 case hI=>rintro s A B row⟨⟨a',c',hh,ho⟩,hr0,hz,hB⟩ hg hr;exact⟨⟨a',c',xJ hh hg (fun r e=>(hr r e).2),bN5 ho hg (fun r e=>(hr r e).2)⟩,xJ hr0 hg (fun r e=>(hr r e).2),Nat.le_trans hz hg.size,hB.grown hg hB.size (fun k e=>by have:=(hr k e).1;omega)⟩
 case hAx=>rintro x a' s A B row⟨Bx,hle,hh,he⟩ hg hr;exact⟨Bx,hle,xJ hh hg (fun r e=>(hr r e).2),he⟩
 case assign=>
  rintro l pre x W K⟨⟨a',c',hh,ho⟩,hr0,hz,hB⟩ hK;simp only[dB8];gi_wp2
  refine hK _ _ ((KeepsOthers.alloc _ _).from _) ⟨u'.alloc (by omega) _,fun v hv=>aC (q') hv⟩ ⟨⟨a',c',(dJ (by omega)).trans hh,ho.alloc _⟩,(dJ (by omega)).trans hr0,by simp;omega,hB.alloc (by omega) _⟩ ⟨W.heap.size,hz,aO rfl,rfl⟩
 case body=>
  rintro l pre x a' W hl⟨r,hr⟩ ⟨⟨a1,c1,hh,ho⟩,hr0,hz,hB⟩ ⟨Bx,hBx,hX,rfl⟩ hlt;obtain⟨x0,x1,x2⟩:=bP5 hh;have f1:=Joins.unfrozen_of_block hh 1;have f2:=Joins.unfrozen_of_block hh 2;obtain⟨y0,y1,y2,y3,y4,y5,y6⟩:=aB0 (show W.heap[Bx]? =Y (M #[I J x.2.kd,I J x.2.tx,I J x.2.ky,X x.2.hd,I J x.2.ol,X x.2.hs,I J x.2.nw] 79 (0,0))from hX);have ne1:¬Bx=w.heap.size+1:=by omega
  have ne2:¬w.heap.size+1=Bx:=by omega
  have hp:pre.length<=1048576:=by omega
  have hx1:w.heap.size+1<W.heap.size:=by omega
  have hx2:Bx<W.heap.size:=aD y0;have hhS:=Joins.block_setCell (i:=1) hh (I J x.1);simp only[List.setIfInBounds_toArray,List.set_cons_zero,List.set_cons_succ]at hhS;have hoS:(W.setCell ⟨w.heap.size+1,1,O⟩ (I J x.1)).ownsRow (w.heap.size+3) 79 7 (Z a1 pre.length c1) pre.length (rc7 (pre.map (·.2))):=ownsRow_setCell_below ho (by simp) _;have hzS:(W.setCell ⟨w.heap.size+1,1,O⟩ (I J x.1)).heap.size=W.heap.size:=by simp
  have l13:w.heap.size+1<w.heap.size+3:=by omega
  have l0S:w.heap.size+1<(W.setCell ⟨w.heap.size+1,1,O⟩ (I J x.1)).heap.size:=by omega
  generalize hpl:pre.length=p at*;clear hl hr r hX;gi_wp2_with (gi_at_builtin;go_must (refine aS7 (.tmp 17) (.tmp 19) (w.heap.size+3) (Z a1 p c1) p (pre.map (·.2)) x.2 hp ?_ ?_ ?_ ?_ ?_ ?_ ?_;exact rfl;exact rfl;exact rfl;(refine⟨_,_,79,rfl,?_⟩;refine aO ?_;(focus(first|rfl|(simp;done))));exact hoS.alloc _;(focus(simp;omega));intro g3 c3 w3 own3 b3 k3;have hh3:=(b3.block (w.heap.size+1) l13).trans ((dJ l0S).trans hhS);obtain⟨z0,z1,z2⟩:=bP5 hh3;have g2:=Joins.unfrozen_of_block hh3 2))
  have hz3:=b3.size;simp at hz3;have kA:KeepsOthers W w3:=((KeepsOthers.setCell W ⟨w.heap.size+1,1,O⟩ (I J x.1)).trans (KeepsOthers.alloc _ _)).trans k3;have bA:Below w.heap.size W w3:=(((Below.refl w.heap.size W).setCell (p:=⟨w.heap.size+1,1,O⟩) (by simp) _).alloc (by simp;omega) _).trans (b3.mono (by omega));have hhF:=Joins.block_setCell (i:=2) hh3 (Z (Y ⟨g3,0,O⟩) (p+1) c3);simp only[List.setIfInBounds_toArray,List.set_cons_zero,List.set_cons_succ]at hhF;refine⟨(kA.trans (KeepsOthers.setCell _ _ _)).from _,⟨bA.setCell (p:=⟨w.heap.size+1,2,O⟩) (by simp) _,fun v hv=>?_⟩,⟨⟨Y ⟨g3,0,O⟩,c3,?_,?_⟩,?_,by simp;omega,(hB.trans bA).setCell (p:=⟨w.heap.size+1,2,O⟩) (by simp) _⟩⟩
  .have lv:w.heap.size+2<W.heap.size:=by omega
   rw[World.cell?_setCell_other _ _ _ _ (by simp),b3.cell (p:=⟨w.heap.size+2,0,O⟩) (by simp)];exact aC (q') (by rw[World.cell?_setCell_other _ _ _ _ (by simp)];exact hv)
  .rw[tK];simpa[hpl]using hhF
  .have:=ownsRow_setCell_below (a:=⟨w.heap.size+1,2,O⟩) own3 (by simp) (Z (Y ⟨g3,0,O⟩) (p+1) c3);simpa[hpl]using this
  .have bX:Below (w.heap.size+1) W w3:=(((Below.refl (w.heap.size+1) W).setCell (p:=⟨w.heap.size+1,1,O⟩) z' _).alloc (by simp;omega) _).trans (b3.mono (by omega));exact((bX.setCell (p:=⟨w.heap.size+1,2,O⟩) z' _).block w.heap.size (by omega)).trans hr0
 case done=>
  rintro D ys W hD rfl⟨⟨a1,c1,hh,ho⟩,hr0,hz,hB⟩ hK;rw[uL,aG2]at hh;rw[uL,bI9]at ho;obtain⟨x0,x1,x2⟩:=bP5 hh;obtain⟨y0,y1,y2⟩:=bP5 hr0;have f0:=Joins.unfrozen_of_block hr0 0;have f1:=Joins.unfrozen_of_block hr0 1;have f2:=Joins.unfrozen_of_block hr0 2;have hu:Hid (Ch.lenOf (aU zs)=fJ zs):=rfl;generalize hrd:(aU zs).length=p at*;have hF:=Joins.block_setCell (i:=2) (Joins.block_setCell (i:=1) (Joins.block_setCell (i:=0) hr0 (I J 0)) (I J (Ch.lenOf (aU zs)))) (Z a1 p c1);simp only[List.setIfInBounds_toArray,List.set_cons_zero,List.set_cons_succ]at hF;have hKF:=(KeepsOthers.setCell _ ⟨w.heap.size,2,O⟩ (Z a1 p c1)).same D _ ((KeepsOthers.setCell _ ⟨w.heap.size,1,O⟩ (I J (Ch.lenOf (aU zs)))).same D _ ((KeepsOthers.setCell W ⟨w.heap.size,0,O⟩ (I J 0)).same D _ hK rfl) rfl) rfl;have hoF:=ownsRow_setCell_below (a:=⟨w.heap.size,2,O⟩) (ownsRow_setCell_below (a:=⟨w.heap.size,1,O⟩) (ownsRow_setCell_below (a:=⟨w.heap.size,0,O⟩) ho (by simp) (I J 0)) (by simp) (I J (Ch.lenOf (aU zs)))) (by simp) (Z a1 p c1);have hBF:=((hB.setCell (p:=⟨w.heap.size,0,O⟩) z' (I J 0)).setCell (p:=⟨w.heap.size,1,O⟩) z' (I J (Ch.lenOf (aU zs)))).setCell (p:=⟨w.heap.size,2,O⟩) z' (Z a1 p c1);gi_wp2
  generalize(((W.setCell ⟨w.heap.size,0,O⟩ (I J 0)).setCell ⟨w.heap.size,1,O⟩ (I J (Ch.lenOf (aU zs)))).setCell ⟨w.heap.size,2,O⟩ (Z a1 p c1))=Wf at*;have hneD:w.heap.size≠D:=by omega
  obtain⟨q0,q1,q2⟩:=bP5 ((World.putObj_heap_other hneD).trans hF:(Wf.putObj D (.deferred O)).heap[w.heap.size]? =_);refine⟨by simp,.inl ⟨_,_,rfl,run_takeDeferred hKF,?_⟩⟩;refine⟨U #[I J 0,I J (Ch.lenOf (aU zs)),Z a1 p c1],?_,a1,c1,?_,?_,hBF.trans (belowK_b (w:=w) z' Wf D _ _ (by omega) hKF rfl rfl)⟩
  .simp[results,Tryz.results9,go_sem,q0,q1,q2]
  .rw[hu.out,hrd]
  .rw[hrd];exact aP (ownsRow_putObj hoF _ hKF rfl) (by omega)
 case stop=>rintro D c pre W _ _ h _;exact h.elim
end
def Ch.KnownH(e:Eng)(hs:List Hold)(n:Nat):Prop:=∀i,i<n->isT e (hs.getD i Hold.zero).t=A'
def Ch.KnownL(e:Eng)(k:Nat):Prop:=∀j,j<k->KnownH e (aH e.lk j).hs (aH e.lk j).hs.length/\KnownH e (aH e.lk j).qs (aH e.lk j).qs.length
theorem Ch.KnownH.step{e:Eng}(h:KnownH e hs n)(h1:isT e (hs.getD n Hold.zero).t=A'):KnownH e hs (n+1):=by
 intro i hi;rcases Nat.lt_or_eq_of_le (Nat.le_of_lt_succ hi)with h2|rfl
 .exact h i h2
 .exact h1
theorem Ch.KnownL.step{e:Eng}(h:KnownL e k)(h1:KnownH e (aH e.lk k).hs (aH e.lk k).hs.length)(h2:KnownH e (aH e.lk k).qs (aH e.lk k).qs.length):KnownL e (k+1):=by
 intro i hi;rcases Nat.lt_or_eq_of_le (Nat.le_of_lt_succ hi)with h3|rfl
 .exact h i h3
 .exact⟨h1,h2⟩
theorem bI7(b:Nat)(s:EgS)(e:Eng)(w:World)(h:EgP w b s e):
  Calls prog 145 #[.pointer (Y ⟨b,0,O⟩)] w fun r w'=>(∃v,r=R' (X v)/\(v=A'->KnownL e e.lk.length))/\w'=w:=by
 have HL:=h.2.lk.len;have hz:=h.2.n3;have hn:s.kn<=1048576:=by unfold dC at hz;have:=HL.out;omega
 obtain⟨x0,x1,x2,x3,x4,x5,x6,x7,x8,x9⟩:=h.all;have hbl:=h.lt;clear x0 x1 x3 x4 x5 x6 x7 x8 x9;go_enter func145,ntmps145
 go_wp2;go_loop [3] (fun i=>∃k:Nat,k<=s.kn/\i=I J k/\Hid (KnownL e k)) (fun i=>s.kn-(intOf i).toNat)
 case atStart=>exact⟨0,Nat.zero_le _,rfl,hid (fun j hj=>by omega)⟩
 case round=>
  obtain⟨k,hk,rfl,HA⟩:=hrel;by_cases hlt:k<s.kn
  .have hkl:k<e.lk.length:=by have:=HL.out;omega
   have HSz:=hid (iM hz k);have HN:=hid (fun a b=>KnownL.step HA.out a b);obtain⟨g,off,ah,nh,ch,aq,nq,cq,hka,c0,c1,c2,h3,h4,_,_,_,_⟩:=h.2.lk.lock hlt;have x2':=x2;rw[hka]at x2';have hQ3:=h3.hlen;have hQ4:=h4.hlen;have hnq:nq<=1048576:=by have:=HSz.out;have:=hQ4.out;omega
   have hnh:nh<=1048576:=by have:=HSz.out;have:=hQ3.out;omega
   have hgl:=aD c0;clear HSz x2;generalize hl:aH e.lk k=l at*;obtain⟨r,lhs,lqs⟩:=l;simp only at c0 h3 h4 HN hQ3 hQ4;clear hl;go_wp2;go_loop [4] (fun i=>∃j:Nat,j<=nh/\i=I J j/\Hid (KnownH e lhs j)) (fun i=>nh-(intOf i).toNat)
   case atStart=>exact⟨0,Nat.zero_le _,rfl,hid (fun i' hi'=>by omega)⟩
   case round=>
    obtain⟨j,hj,rfl,HJ⟩:=hrel;by_cases hjt:j<nh
    .obtain⟨o,of,hao,q0,q1⟩:=h3.hold hjt;have hol:=aD q0;have II:=fun W hW=>nX b s e (lhs.getD j Hold.zero).t W hW;have HP:=hid (fun h1=>KnownH.step HJ.out h1);generalize lhs.getD j Hold.zero=p at*;obtain⟨pt,pm⟩:=p;simp only at q0 q1 II HP;rw[hao]at c1;cases hv:isT e pt
     .rw[hv]at II;go_wp2_with fail
      refine(II _ h).mono ?_;rintro r' w1⟨rfl,hw1⟩;obtain rfl:=hw1.symm;go_wp2;go_ret;exact⟨⟨_,rfl,fun hh=>absurd hh (by simp)⟩,rfl⟩
     .rw[hv]at II;go_wp2_with fail
      refine(II _ h).mono ?_;rintro r' w1⟨rfl,hw1⟩;obtain rfl:=hw1.symm;go_wp2;go_round
      case rel=>exact⟨j+1,by omega,by go_num,hid (HP.out hv)⟩
      case measure=>simp[intOf];omega
    .obtain rfl:j=nh:=by omega
     have HJ1:=HJ;clear HJ;go_wp2;go_loop [5] (fun i=>∃j:Nat,j<=nq/\i=I J j/\Hid (KnownH e lqs j)) (fun i=>nq-(intOf i).toNat)
     case atStart=>exact⟨0,Nat.zero_le _,rfl,hid (fun i' hi'=>by omega)⟩
     case round=>
      obtain⟨j,hj,rfl,HJ⟩:=hrel;by_cases hjt:j<nq
      .obtain⟨o,of,hao,q0,q1⟩:=h4.hold hjt;have hol:=aD q0;have II:=fun W hW=>nX b s e (lqs.getD j Hold.zero).t W hW;have HP:=hid (fun h1=>KnownH.step HJ.out h1);generalize lqs.getD j Hold.zero=p at*;obtain⟨pt,pm⟩:=p;simp only at q0 q1 II HP;rw[hao]at c2;cases hv:isT e pt
       .rw[hv]at II;go_wp2_with fail
        refine(II _ h).mono ?_;rintro r' w1⟨rfl,hw1⟩;obtain rfl:=hw1.symm;go_wp2;go_ret;exact⟨⟨_,rfl,fun hh=>absurd hh (by simp)⟩,rfl⟩
       .rw[hv]at II;go_wp2_with fail
        refine(II _ h).mono ?_;rintro r' w1⟨rfl,hw1⟩;obtain rfl:=hw1.symm;go_wp2;go_round
        case rel=>exact⟨j+1,by omega,by go_num,hid (HP.out hv)⟩
        case measure=>simp[intOf];omega
      .obtain rfl:j=nq:=by omega
       have HJ2:=HJ;go_wp2;go_round
       case rel=>exact⟨k+1,by omega,by go_num,hid (HN.out (by rw[<-hQ3.out];exact HJ1.out) (by rw[<-hQ4.out];exact HJ2.out))⟩
       case measure=>simp[intOf];omega
  .obtain rfl:k=s.kn:=by omega
   have HE:Hid (KnownL e e.lk.length):=by rw[<-HL.out];exact HA
   go_wp2;go_ret;exact⟨Or.inr ⟨rfl,HE.out⟩,rfl⟩
theorem bP9{ty:TypeId}(ht:prog.underlying t=Y (.slice e))(htn:prog.underlying tn=Y (.slice e'))(hi:prog.info? e=Y i)(hz:i.zero=Y z)
  (hsize:i.size=size) (hby:i.bytes=bytes) (hzs:z.cells.size=size) (hsz:0<size) (hbb:bytes<=1024)
  {m c:Nat} (hc:CellsAt w A (m*size) news) (hn:m<=4194304):
  ∃a' c' w',(Builtin.append_ #[t,tn] ty #[Z (Y ⟨g,0,O⟩) 0 0,Z A m c]).run prog w= .ok (Z a' m c') w'/\Below w.heap.size w w'/\((m=0/\a'=Y ⟨g,0,O⟩/\c'=0/\w'=w)\/w'.ownsRow w.heap.size e size (Z a' m c') m news):=by
 rw[aT3 ht htn hi];by_cases hm:m=0
 .subst hm;refine⟨Y ⟨g,0,O⟩,0,w,?_,u',.inl ⟨rfl,rfl,rfl,rfl⟩⟩;cases A with
  |some ad=>simp[Builtin.append_,run_underlying ht,sizeOf,typeInfo,hi,Builtin.lenOf,Builtin.firstCells,storeCells,loadCells,loadCellsFrom]
  |none=>simp[Builtin.append_,run_underlying ht,sizeOf,typeInfo,hi,Builtin.lenOf,Builtin.firstCells,storeCells]
 .cases A with
  |none=>obtain⟨b,off,ha,_⟩:=hc.2 (Nat.mul_pos (by omega) hsz);simp at ha
  |some ad=>
   obtain⟨v',w',hr,h2,h3⟩:=run_append_arg_grows (P:=prog) w t ty e i z size bytes ht hi hz hsize hby hzs hsz ⟨g,0,O⟩ 0 0 [] (by simp) (fun j u hj=>by simp at hj) ad m c news hc.1 (fun j u hj=>by
    have hjl:j<news.length:=(List.getElem?_eq_some_iff.1 hj).1;have hl:=hc.1;obtain⟨b,off,ha,hcc⟩:=hc.2 (by omega);simp only[Option.some.injEq]at ha;subst ha;rw[aH5,hcc j (by omega),hj]) (by omega) (by unfold maxLen;omega) (by have:=Nat.mul_le_mul hn hbb;rw[Nat.zero_add];omega)
   rw[Nat.zero_add]at h2;obtain⟨a',c',rfl⟩:=dI h2;exact⟨a',c',w',hr,⟨h3.os,h3.tape,h3.output,h3.size,fun k hk=>h3.block k hk (by simp)⟩,.inr h2⟩
theorem cR5{E:Prop}(ht:prog.underlying t=Y (.slice e))(htn:prog.underlying tn=Y (.slice e'))(hi:prog.info? e=Y i)(hz:i.zero=Y z)
  (hsize:i.size=size) (hby:i.bytes=bytes) (hzs:z.cells.size=size) (hsz:0<size) (hbb:bytes<=1024) (s x:Operand)
  (ho:o.op= .call {callee:=.builtin .append,args:=#[s,x],argTypes:=#[t,tn]}) (hgd:o.guard=O)
  (g:Nat) (A:Option Addr) (m c:Nat) (news:List Value) (hs:a.eval s=Z (Y ⟨g,0,O⟩) 0 0) (hx:a.eval x=Z A m c) (hc:CellsAt w A (m*size) news) (hn:m<=4194304)
  (hK:∀a' c' w',Below w.heap.size w w'->((m=0/\a'=Y ⟨g,0,O⟩/\c'=0/\w'=w)\/w'.ownsRow w.heap.size e size (Z a' m c') m news)->K (a.put o.dst (Z a' m c')) w'):
  if Region.wanted o (yielded ops a.tmps)=A' then Oper.wp prog o a w K Q else E:=by
 have hw:Region.wanted o (yielded ops a.tmps)=A':=by simp[Region.wanted,hgd]
 rw[if_pos hw];obtain⟨a',c',w',hr,h2,h3⟩:=bP9 (ty:=o.type) (c:=c) (g:=g) ht htn hi hz hsize hby hzs hsz hbb hc hn;exact Lib.wp_append_run w s x t tn ho _ _ hs hx _ _ hr (hK a' c' w' h2 h3)
theorem bF0(ht:prog.underlying t=Y (.slice e))(htn:prog.underlying tn=Y (.slice e'))(hi:prog.info? e=Y i)(hz:i.zero=Y z)
  (hsize:i.size=size) (hby:i.bytes=bytes) (hzs:z.cells.size=size) (hsz:0<size) (hbb:bytes<=1024) (s x:Operand)
  (ho:o.op= .call {callee:=.builtin .append,args:=#[s,x],argTypes:=#[t,tn]}) (hgd:o.guard=O)
  (g:Nat) (A:Option Addr) (m c:Nat) (news:List Value) (hs:a.eval s=Z (Y ⟨g,0,O⟩) 0 0) (hx:a.eval x=Z A m c) (hc:CellsAt w A (m*size) news) (hn:m<=4194304)
  (hK:∀a' c' w',Below w.heap.size w w'->((m=0/\a'=Y ⟨g,0,O⟩/\c'=0/\w'=w)\/w'.ownsRow w.heap.size e size (Z a' m c') m news)->wpList prog ops Q rest (a.put o.dst (Z a' m c')) w'):
  wpList prog ops Q (o::rest) a w:=by
 obtain⟨a',c',w',hr,h2,h3⟩:=bP9 (ty:=o.type) (c:=c) (g:=g) ht htn hi hz hsize hby hzs hsz hbb hc hn;exact Lib.wpList_append_run w hgd s x t tn ho _ _ hs hx _ _ hr (hK a' c' w' h2 h3)
def Empt(w:World)(T:Nat->Nat)(k:Nat)(t:TypeId)(v:Value):Prop:=∃g,v=Z (Y ⟨g,0,O⟩) 0 0/\w.heap[g]? =Y (M #[] t (0,0))/\T g=k
theorem Empt.new(w:World)(T:Nat->Nat)(k:Nat)(t:TypeId):Empt (w.alloc (M #[] t)) (mrk T w.heap.size k) k t (Z (Y ⟨w.heap.size,0,O⟩) 0 0):=
 ⟨_,rfl,aO rfl,by unfold mrk;rw[if_neg (by omega)]⟩
theorem Empt.kept{T':Nat->Nat}(h:Empt w T k t v)(hk:Kp k T T' w w'):Empt w' T' k t v:=by obtain⟨g,hv,hc,ht⟩:=h;obtain⟨h1,h2⟩:=hk g (Array.getElem?_eq_some_iff.1 hc).1 ht;exact⟨g,hv,h1.trans hc,h2⟩
theorem Empt.app{m c:Nat}{sz:Nat}(hc:w.heap[g]? =Y (M #[] t (0,0)))(hT:T g=k)(hl:news.length=m*sz)(hb:Below w.heap.size w w')
  (h:(m=0/\A=Y ⟨g,0,O⟩/\c=0/\w'=w)\/w'.ownsRow w.heap.size t sz (Z A m c) m news):OwnT w' 0 (mrk T w.heap.size k) k t sz (Z A m c) m news:=by
 rcases h with⟨rfl,rfl,rfl,rfl⟩|h
 .refine⟨⟨by omega,.inr ⟨g,0,#[],rfl,Nat.zero_le _,hc,by omega,by unfold maxLen;omega,by simp,?_⟩⟩,fun g' hg=>?_⟩
  .have:news=[]:=List.eq_nil_of_length_eq_zero (by omega);simp[this]
  .simp only[Value.ownBlock,Option.some.injEq]at hg;subst hg;unfold mrk;rw[if_pos (Array.getElem?_eq_some_iff.1 hc).1];exact hT
 .exact OwnT.new h (Nat.zero_le _)
theorem tG(ts:List Tx)(t:Tx)(i:Nat):aQ (ts++[t]) i=if i=ts.length then t else aQ ts i:=by
 unfold aQ;by_cases h:i=ts.length
 .subst h;simp[List.getD]
 .rw[if_neg h];by_cases h2:i<ts.length
  .simp[List.getD,List.getElem?_append_left h2]
  .simp[List.getD,List.getElem?_eq_none (show(ts++[t]).length<=i by simp;omega),List.getElem?_eq_none (show ts.length<=i by omega)]
theorem sH(ts:List Ac)(t:Ac)(i:Nat):eK (ts++[t]) i=if i=ts.length then t else eK ts i:=by
 unfold eK;by_cases h:i=ts.length
 .subst h;simp[List.getD]
 .rw[if_neg h];by_cases h2:i<ts.length
  .simp[List.getD,List.getElem?_append_left h2]
  .simp[List.getD,List.getElem?_eq_none (show(ts++[t]).length<=i by simp;omega),List.getElem?_eq_none (show ts.length<=i by omega)]
def txc(t:Tx)(x:Value):List Value:=[I J t.id,X t.sy,I J t.st,x,I J t.wk,I J t.wa,I J t.wb,I J t.wv]
theorem dH2(t:Tx)(x:Value)(j:Nat)(hj:j<8):(txc t x)[j]? =Y (tx8 t x j):=by
 match j,hj with
 |0,_=>rfl
 |1,_=>rfl
 |2,_=>rfl
 |3,_=>rfl
 |4,_=>rfl
 |5,_=>rfl
 |6,_=>rfl
 |7,_=>rfl
def acc6(t:Ac)(x:Value):List Value:=[I J t.tx,I J t.k,I J t.a,I J t.b,I J t.v,x]
theorem dB1(t:Ac)(x:Value)(j:Nat)(hj:j<6):(acc6 t x)[j]? =Y (ac6 t x j):=by
 match j,hj with
 |0,_=>rfl
 |1,_=>rfl
 |2,_=>rfl
 |3,_=>rfl
 |4,_=>rfl
 |5,_=>rfl
theorem TxO.snoc{t:Tx}(hl:ts.length=n)(hcl:cs.length=n*8)
  (hc:∀i j,i<n->j<8->cs[i*8+j]? =Y (tx8 (aQ ts i) (us i) j)) (hr:OwnT w H T 2 155 8 v (n+1) (cs++txc t x))
  (hu:∀i,i<n->OwnT w H T (2*i+10) 263 3 (us i) (aQ ts i).un.length (bfcells (aQ ts i).un)) (hx:OwnT w H T (2*n+10) 263 3 x t.un.length (bfcells t.un))
  (hf:∀i,(aQ ts i).un.length<=1048576) (hft:t.un.length<=1048576):TxO w H T v (n+1) (ts++[t]) (fun i=>if i=n then x else us i):=by
 refine⟨by simp[hl],⟨_,hr,fun i j hi hj=>?_⟩,fun i hi=>?_,fun i=>?_⟩
 .rw[tG,hl];by_cases h:i=n
  .subst h;rw[if_pos rfl,List.getElem?_append_right (by omega)];simp only[if_true];rw[show i*8+j-cs.length=j by omega];exact dH2 t x j hj
  .rw[if_neg h,List.getElem?_append_left (by omega)];simp only[if_neg h];exact hc i j (by omega) hj
 .rw[tG,hl];by_cases h:i=n
  .subst h;simpa using hx
  .simp only[if_neg h];exact hu i (by omega)
 .rw[tG];split
  .exact hft
  .exact hf i
theorem AcO.snoc{ts:List Ac}{t:Ac}(hl:ts.length=n)(hcl:cs.length=n*6)
  (hc:∀i j,i<n->j<6->cs[i*6+j]? =Y (ac6 (eK ts i) (us i) j)) (hr:OwnT w H T 7 56 6 v (n+1) (cs++acc6 t x))
  (hu:∀i,i<n->OwnT w H T (2*i+11) 2 1 (us i) (eK ts i).an.length (icells (eK ts i).an)) (hx:OwnT w H T (2*n+11) 2 1 x t.an.length (icells t.an))
  (hf:∀i,(eK ts i).an.length<=1048576) (hft:t.an.length<=1048576):AcO w H T v (n+1) (ts++[t]) (fun i=>if i=n then x else us i):=by
 refine⟨by simp[hl],⟨_,hr,fun i j hi hj=>?_⟩,fun i hi=>?_,fun i=>?_⟩
 .rw[sH,hl];by_cases h:i=n
  .subst h;rw[if_pos rfl,List.getElem?_append_right (by omega)];simp only[if_true];rw[show i*6+j-cs.length=j by omega];exact dB1 t x j hj
  .rw[if_neg h,List.getElem?_append_left (by omega)];simp only[if_neg h];exact hc i j (by omega) hj
 .rw[sH,hl];by_cases h:i=n
  .subst h;simpa using hx
  .simp only[if_neg h];exact hu i (by omega)
 .rw[sH];split
  .exact hft
  .exact hf i
theorem bE6(ts:List Tx)(k:Nat)(h:k<ts.length):ts.take (k+1)=ts.take k++[aQ ts k]:=by rw[List.take_add_one,List.getElem?_eq_getElem h];simp[aQ,List.getD,h]
end Go.Proofs.YtpbbokalojdooaaGreat
