import Derived.Test.YtpbbokalojdooaaGreatWav
namespace Go.Proofs.YtpbbokalojdooaaGreat
open Go.RowKit Ch Go.Proofs.Tryz
set_option linter.unusedSimpArgs false
set_option linter.unusedVariables false
set_option maxRecDepth 20000
set_option maxHeartbeats 8000000
open Value renaming int->I,slice->Z,bool->X,agg->U
open IntKind renaming i64->J
open Option renaming none->O,some->Y
open Obj renaming cells->M
open Ending renaming returned->R'
open Bool renaming true->A',false->F'
variable {ops:Array Oper} {cs:Array Value} {Q:Exit->Act->World->Prop} {F:Fence} {rest:List Oper} {xs:List Value} {g:Nat} {row:Option Nat} {e t:TypeId} {fv v:Value} {W W' w:World}
section
open Go.Shelf
attribute [local go_sem] Oper.semAt_some
theorem aV0{d:Nat}{o:Oper}{a:Act}(s x:Operand)
  (B:Nat) (v:Value) (n:Nat) (rs:List Int) (r:Int) (hn:n<=1048576)
  (ho:o.op= .call {callee:=.builtin .append,args:=#[s,x],argTypes:=#[27,27]}) (hgd:o.guard=O)
  (hs:a.eval s=v) (hx:∃h c t,a.eval x=Z (Y ⟨h,0,O⟩) 1 c/\w.heap[h]? =Y (M #[I J r] t (0,0)))
  (hown:w.ownsRow B 2 1 v n (icells rs)) (hbase:B<=w.heap.size)
  (hK:∀g' cp' w',w'.ownsRow B 2 1 (Z (Y ⟨g',0,O⟩) (n+1) cp') (n+1) (icells (rs++[r]))->Below B w w'->KeepsOthers w w'->wpListIn F d prog ops Q rest (a.put o.dst (Z (Y ⟨g',0,O⟩) (n+1) cp')) w'):
  wpListIn F d prog ops Q (o::rest) a w:=by
 obtain⟨h,c,t,hx,hblk⟩:=hx;obtain⟨i0,hi,hz0,hz1,hz2⟩:=Bz Tryz.info2;refine wpListIn_append_own w hgd s x 27 ho B 2 i0 _ 1 8 underlying27 hi hz0 hz1 hz2 rfl (by omega) v n (icells rs) hs hown ⟨h,0,O⟩ 1 c [I J r] hx rfl (World.news_of_block hblk) (by simp[Value.oneCell']) (by unfold maxLen;omega) (by omega) hbase ?_;intro v' w' hown' hgrow _;rw[show icells rs++[I J r]=icells (rs++[r])by simp[icells]]at hown';obtain⟨g',cap',rfl⟩:=ownsRow_succ hown';refine hK g' cap' w' hown' ((Aa _ _).grown hgrow hbase (fun k hk=>?_)) (KeepsOthers.of_grownBy hgrow (fun j ob hj hob=>?_))
 .rcases hown.2 with⟨hv,_⟩|⟨g,cap',cur,hv,hb,_⟩
  .subst hv;simp[Value.ownBlock]at hk
  .subst hv;simp[Value.ownBlock]at hk;omega
 .rcases hown.2 with⟨hv,_⟩|⟨g,cap',cur,hv,hb,hh,_⟩
  .subst hv;simp[Value.ownBlock]at hj
  .subst hv;simp[Value.ownBlock]at hj;subst hj;rw[hh]at hob;cases hob;rfl
theorem bR7{base:Nat}{size:Nat}{n:Nat}(h:W.ownsRow base e size v n xs)(hg:W.grownBy W' row)(hr:∀r,row=Y r->∃o:Obj,W.heap[r]? =Y o/\o.isCells=F'):W'.ownsRow base e size v n xs:=by
 refine aN h hg (fun g hv hrow=>?_);obtain⟨o,ho,hc⟩:=hr g hrow;rcases h.2 with⟨hv',_⟩|⟨g',cap',cur,hv',hb,hh,_⟩
 .subst hv';simp[Value.ownBlock]at hv
 .subst hv';simp[Value.ownBlock]at hv;subst hv;rw[hh]at ho;cases ho;cases hc
theorem qX(h:W.heap[g]? =Y (M cs t (0,0)))(hg:W.grownBy W' row)(hr:∀r,row=Y r->∃o:Obj,W.heap[r]? =Y o/\o.isCells=F'):W'.heap[g]? =Y (M cs t (0,0)):=by
 have hlt:g<W.heap.size:=(Ab.1 h).1;rw[hg.block g hlt (fun e=>?_)]
 .exact h
 .obtain⟨o,ho,hc⟩:=hr g e.symm;rw[h]at ho;cases ho;cases hc
theorem cR9{u0 u1:Value}(h:W.heap[g]? =Y (M #[u0,u1] t (0,0))):W.cell? ⟨g,0,O⟩=Y u0/\W.cell? ⟨g,1,O⟩=Y u1:=
 ⟨C' h,C' h⟩
abbrev acC(ts:List Ac)(sv:Nat->Value)(i:Nat):Array Value:=#[I J (aM ts i).tx,I J (aM ts i).k,I J (aM ts i).a,I J (aM ts i).b,I J (aM ts i).v,sv i]
set_option maxRecDepth 100000 in
set_option maxHeartbeats 4000000 in
theorem aT6(a:Option Addr)(n cap:Nat)(txn:Int)(ts:List Ac)(w:World)(h:AcAt w a n ts)(hn:n<=220)(hF:cQ ts=0)(ht:inB txn 1 999=A'):
  Calls prog 21 #[Z a n cap,I J txn] w fun e w'=>∃a' m c',e=R' (U #[I J 0,Z a' m c'])/\w'.ownsRow w.heap.size 2 1 (Z a' m c') m (icells (wrL ts txn))/\Below w.heap.size w w':=by
 obtain⟨sv,hV⟩:=h.named;have HFz:=hid (jA hF).2;refine(Do (n:=6)).1 ?_;refine callsIn_of_wp_marks func21 rfl Cm ?_ rfl;simp only[ntmps21,List.size_toArray,List.length_cons,List.length_nil,Nat.reduceAdd,Nat.reduceSub,Array.replicate_succ,Array.replicate_zero,List.push_toArray,List.append_toArray,List.nil_append,List.cons_append];gi_wp2_with fail
 refine⟨Cm,(Do.2 (lC a n cap ts _ (h.below ((Aa _ _).alloc z' _)) (by omega))).mono ?_⟩;rintro e w1⟨rfl,b1⟩;rw[hF];have hR1:w1.heap[w.heap.size]? =Y (M #[I J 0,Z O 0 0] 36 (0,0)):=(b1.block w.heap.size (by simp)).trans (Ar w _);have hB1:Below w.heap.size w w1:=aZ b1;have hsz1:w.heap.size<w1.heap.size:=by have:=b1.size;simp at this;omega
 clear b1;gi_wp2_with fail
 refine⟨Cm,(Do.2 (vZ txn _)).mono ?_⟩;rintro e w1'⟨rfl,rfl⟩;rw[ht];gi_wp2_with fail
 refine⟨Cm,(Do.2 (aI1 a n cap txn _)).mono ?_⟩;rintro e w2⟨rfl,rfl⟩;gi_wp2_with fail
 have hV1:AcV w1' a n sv ts:=hV.below hB1;obtain⟨HH,hHH⟩:∃HH,w1'.heap.size=HH:=⟨_,rfl⟩
 have hB0:Below w.heap.size w (((w1'.alloc (M #[Z O 0 0] 27)).alloc (M #[Z a n cap] 45)).alloc (M #[I J txn] 2)):=((hB1.alloc (by omega) _).alloc (by simp;omega) _).alloc (by simp;omega) _;have hB0':Below w1'.heap.size w1' (((w1'.alloc (M #[Z O 0 0] 27)).alloc (M #[Z a n cap] 45)).alloc (M #[I J txn] 2)):=(((Aa _ _).alloc z' _).alloc (by simp) _).alloc (by simp;omega) _;have hK0:(((w1'.alloc (M #[Z O 0 0] 27)).alloc (M #[Z a n cap] 45)).alloc (M #[I J txn] 2)).heap[w1'.heap.size]? =Y (M #[Z O 0 0] 27 (0,0)):=by
  refine(cN ?_).trans ((cN ?_).trans (aP rfl))
  .simp;omega
  .simp
 have hc1:(((w1'.alloc (M #[Z O 0 0] 27)).alloc (M #[Z a n cap] 45)).alloc (M #[I J txn] 2)).cell? ⟨w1'.heap.size+1,0,O⟩=Y (Z a n cap):=by
  refine Ai _ _ 0 #[Z a n cap] 45 (0,0) ((cN ?_).trans (aP ?_))
  .simp
  .simp
 have hc2:(((w1'.alloc (M #[Z O 0 0] 27)).alloc (M #[Z a n cap] 45)).alloc (M #[I J txn] 2)).cell? ⟨w1'.heap.size+1+1,0,O⟩=Y (I J txn):=by refine Ai _ _ 0 #[I J txn] 2 (0,0) (aP ?_);simp
 have hR0:=(hB0'.block w.heap.size hsz1).trans hR1;have hs0:(((w1'.alloc (M #[Z O 0 0] 27)).alloc (M #[Z a n cap] 45)).alloc (M #[I J txn] 2)).heap.size=w1'.heap.size+3:=by simp
 rw[hHH]at hB0' hK0 hc1 hc2 hs0 hsz1⊢;generalize hW0:(((w1'.alloc (M #[Z O 0 0] 27)).alloc (M #[Z a n cap] 45)).alloc (M #[I J txn] 2))=W0 at*;have hwr:=hid (dI8 HFz.out txn);have hll:Hid (n=ts.length):=h.len;have hal:=wT ts txn n;refine wpIn_rangeFunc_ownH rfl (by decide) (gf:=86) (lb:=#[.pointer (Y ⟨HH+1,0,O⟩),.pointer (Y ⟨HH+1+1,0,O⟩)]) rfl Cm (enters_of func86 (by kernel_rfl) rfl)
  (aI2 5 (HH+1) (HH+1+1) (by decide) a n cap txn sv ts w1' W0 hV1 (by omega) (by rw[hHH];exact hB0') hc1 hc2) KpA.t (KpA.b (by omega)) (Aa _ _) (fun _=>rfl)
  (fun pre W=>(∃a' c',W.heap[HH]? =Y (M #[Z a' (fB ts pre).length c'] 27 (0,0))/\W.ownsRow (HH+3) 2 1 (Z a' (fB ts pre).length c') (fB ts pre).length (icells (fB ts pre)))/\W.heap[w.heap.size]? =Y (M #[I J 0,Z O 0 0] 36 (0,0))/\HH+3<=W.heap.size/\Below w.heap.size w W)
  (fun _ _ _=>False)
  ?hI (fun _ _ _ _ _ hs _ _=>hs)
  ⟨⟨O,0,hK0,Aw _ _ _ _⟩,hR0,by omega,hB0⟩
  (fun x a' W=>∃Bx,HH+3<=Bx/\W.heap[Bx]? =Y (M (acC ts sv x) 56 (0,0))/\a'={tmps:=#[Z a n cap,I J txn,undef,undef,.pointer (Y ⟨w.heap.size,0,O⟩),I J 0,.pointer (Y ⟨HH,0,O⟩),.pointer (Y ⟨Bx,0,O⟩),Z a n cap,I J 0,I J 0,X F',undef,undef,I J txn,X A',X F',undef,Z a n cap,I J txn,.func (.func 86) #[] #[.pointer (Y ⟨HH+1,0,O⟩),.pointer (Y ⟨HH+1+1,0,O⟩)],U (acC ts sv x),undef,undef,undef,undef,undef,undef,undef,undef,undef,undef,undef,undef,undef,undef,undef],defers:=[]})
  ?hAx ?assign ?body ?done ?stop
 case hI=>rintro s A B row⟨⟨a',c',hh,ho⟩,hr0,hz,hB⟩ hg hr;exact⟨⟨a',c',qX hh hg (fun r e=>(hr r e).2),bR7 ho hg (fun r e=>(hr r e).2)⟩,qX hr0 hg (fun r e=>(hr r e).2),Ak hz hg.size,hB.grown hg hB.size (fun k e=>by have:=(hr k e).1;omega)⟩
 case hAx=>rintro x a' s A B row⟨Bx,hle,hh,he⟩ hg hr;exact⟨Bx,hle,qX hh hg (fun r e=>(hr r e).2),he⟩
 case assign=>
  rintro l pre x W K⟨⟨a',c',hh,ho⟩,hr0,hz,hB⟩ hK;obtain⟨ai,ni,ci,hsv,_,_⟩:=hV.2.2 x;simp only[dC8,hsv];gi_wp2
  refine hK _ _ ((KeepsOthers.alloc _ _).from _) ⟨(Aa _ _).alloc (by omega) _,fun v hv=>keep_cell ((Aa _ _).alloc z' _) hv,fun v hv=>keep_cell ((Aa _ _).alloc z' _) hv⟩ ⟨⟨a',c',(cN (by omega)).trans hh,ho.alloc _⟩,(cN (by omega)).trans hr0,by simp;omega,hB.alloc (by omega) _⟩ ⟨W.heap.size,hz,by rw[acC,hsv];exact aP rfl,by simp only[acC,hsv]⟩
 case body=>
  rintro l pre x a' W hl⟨r,hr⟩ ⟨⟨a1,c1,hh,ho⟩,hr0,hz,hB⟩ ⟨Bx,hBx,hX,rfl⟩ hlt;have hp:(fB ts pre).length<=1048576:=by have:=zN ts pre;omega
  have HY:=hid (bD7 ts pre x);have HN:=hid (bP0 ts pre x);obtain⟨ai,ni,ci,hsv,_,_⟩:=hV.2.2 x;simp only[acC,hsv]at hX⊢;have x0:W.cell? ⟨HH,0,O⟩=Y (Z a1 (fB ts pre).length c1):=C' hh;have f0:=Ax hh 0;have y1:W.cell? ⟨Bx,1,O⟩=Y (I J (aM ts x).k):=C' hX;have y2:W.cell? ⟨Bx,1+1,O⟩=Y (I J (aM ts x).a):=C' hX;have ne1:¬Bx=HH:=by omega
  have ne2:¬HH=Bx:=by omega
  have hx1:HH<W.heap.size:=by omega
  have hx2:Bx<W.heap.size:=aD y1;have l13:HH<HH+3:=by omega
  cases hw:isW (aM ts x).k with
  |true=>
   have HK:=hid (HY.out hw);clear HY HN hl hr r hX;generalize fB ts pre=zs at*;generalize hpl:zs.length=p at*;generalize(aM ts x).k=kd at*;generalize(aM ts x).a=ky at*;generalize(aM ts x).tx=kt at*;generalize(aM ts x).b=kb at*;generalize(aM ts x).v=kv at*;gi_wp2_with fail
   refine⟨Cm,(Do.2 (mL _ _)).mono ?_⟩;rintro e w'⟨rfl,hww⟩;rw[hw,hww];clear hww w';gi_wp2_with (gi_at_builtin;go_must (refine aV0 (.tmp 26) (.tmp 30) (HH+3) (Z a1 p c1) p zs ky hp ?_ ?_ ?_ ?_ ?_ ?_ ?_;exact rfl;exact rfl;exact rfl;(refine⟨_,_,2,rfl,?_⟩;refine aP ?_;(focus(first|rfl|(simp;done))));exact ho.alloc _;(focus(simp;omega));intro g3 c3 w3 own3 b3 k3;have hh3:=(b3.block HH l13).trans ((cN hx1).trans hh);have z0:w3.cell? ⟨HH,0,O⟩=Y (Z a1 p c1):=C' hh3;have g0:=Ax hh3 0))
   have hz3:=b3.size;simp at hz3;have kA:KeepsOthers W w3:=(KeepsOthers.alloc _ _).trans k3;have bA:Below w.heap.size W w3:=((Aa w.heap.size W).alloc (by omega) _).trans (b3.mono (by omega));have hhF:=Ah (i:=0) hh3 (Z (Y ⟨g3,0,O⟩) (p+1) c3);simp only[Bh,List.set_cons_zero]at hhF;have hkeep:∀b',HH<b'->b'<HH+3->∀v,W.cell? ⟨b',0,O⟩=Y v->(w3.setCell ⟨HH,0,O⟩ (Z (Y ⟨g3,0,O⟩) (p+1) c3)).cell? ⟨b',0,O⟩=Y v:=by intro b' h1 h2 v hv;rw[Aq _ _ _ _ (by first|(simp;done)|(simp;omega)),b3.cell (p:=⟨b',0,O⟩) (by simpa using h2)];exact keep_cell ((Aa _ _).alloc z' _) hv
   refine⟨(kA.trans (Fv _ _ _)).from _,⟨?_,hkeep _ (by omega) (by omega),hkeep _ (by omega) (by omega)⟩,⟨⟨Y ⟨g3,0,O⟩,c3,?_,?_⟩,?_,by simp;omega,(hB.trans bA).setCell (p:=⟨HH,0,O⟩) (by simp;omega) _⟩⟩
   .have bH:Below HH W w3:=((Aa HH W).alloc (by omega) _).trans (b3.mono (by omega));rw[hHH];exact bH.setCell (p:=⟨HH,0,O⟩) z' _
   .rw[HK.out,Bv,hpl];exact hhF
   .rw[HK.out,Bv,hpl];exact Bd (a:=⟨HH,0,O⟩) own3 (by simp) _
   .have bX:Below HH W w3:=((Aa HH W).alloc (by omega) _).trans (b3.mono (by omega));exact((bX.setCell (p:=⟨HH,0,O⟩) z' _).block w.heap.size (by omega)).trans hr0
  |false=>
   have HK:=hid (HN.out hw);clear HY HN hl hr r hX;gi_wp2_with fail
   refine⟨Cm,(Do.2 (mL _ _)).mono ?_⟩;rintro e w'⟨rfl,rfl⟩;rw[hw];gi_wp2
   refine⟨(KeepsOthers.refl _).from _,⟨Aa _ _,fun v hv=>hv,fun v hv=>hv⟩,⟨a1,c1,?_,?_⟩,hr0,hz,hB⟩
   .rw[HK.out];exact hh
   .rw[HK.out];exact ho
 case done=>
  rintro D ys W hD rfl⟨⟨a1,c1,hh,ho⟩,hr0,hz,hB⟩ hK;rw[hll.out]at hh ho;have hp:(fB ts (cJ ts txn ts.length)).length<=1048576:=by have:=zN ts (cJ ts txn ts.length);have:=wT ts txn ts.length;have:=hll.out;omega
  generalize fB ts (cJ ts txn ts.length)=zs at*;have HZl:Hid (zs.length=(icells zs).length):=(yD zs).symm;generalize hpl:zs.length=p at*;have x0:W.cell? ⟨HH,0,O⟩=Y (Z a1 p c1):=C' hh;have hneD:w.heap.size≠D:=by omega
  have hDl:D<W.heap.size:=(Ab.1 hK).1;rcases ho.2 with⟨hnil,hp0⟩|⟨g,cap',cur,hv,hbase,hb,_⟩
  .cases hnil;obtain rfl:zs=[]:=Dn hpl;have HW:Hid ([]=wrL ts txn):=by show _=_;rw[<-hwr.out,List.mergeSort_nil];rfl
   obtain⟨y0,y1⟩:=cR9 hr0;have f0:=Ax hr0 0;have f1:=Ax hr0 1;gi_wp2_with fail
   refine⟨Cm,(Do.2 (cZ1 _ _ _)).mono ?_⟩;rintro e w4⟨rfl,hww⟩;rw[hww];clear hww w4;gi_wp2_with fail
   refine⟨Cm,(Do.2 (bB4 _ _ _)).mono ?_⟩;rintro e w4⟨rfl,hww⟩;rw[hww];clear hww w4;rw[HW.out]at ho;have hF:=Ah (i:=1) (Ah (i:=0) hr0 (I J 0)) (Z O 0 0);simp only[Bh,List.set_cons_zero,List.set_cons_succ]at hF;have hKF:=(Fv _ ⟨w.heap.size,1,O⟩ (Z O 0 0)).same D _ ((Fv W ⟨w.heap.size,0,O⟩ (I J 0)).same D _ hK rfl) rfl;have hoF:=Bd (a:=⟨w.heap.size,1,O⟩) (Bd (a:=⟨w.heap.size,0,O⟩) ho (by simp;omega) (I J 0)) (by simp;omega) (Z O 0 0);have hBF:=(hB.setCell (p:=⟨w.heap.size,0,O⟩) z' (I J 0)).setCell (p:=⟨w.heap.size,1,O⟩) z' (Z O 0 0);gi_wp2
   generalize((W.setCell ⟨w.heap.size,0,O⟩ (I J 0)).setCell ⟨w.heap.size,1,O⟩ (Z O 0 0))=Wf at*;obtain⟨q0,q1⟩:=cR9 ((Fi hneD).trans hF:(Wf.putObj D (.deferred O)).heap[w.heap.size]? =_);refine⟨by simp,.inl ⟨_,_,rfl,run_takeDeferred hKF,?_⟩⟩;refine⟨U #[I J 0,Z O 0 0],?_,O,0,0,rfl,?_,hBF.trans (belowK_b (w:=w) z' Wf D _ _ (by omega) hKF rfl rfl)⟩
   .simp[results,Tryz.results21,go_sem,q0,q1]
   .exact aQ (ownsRow_putObj hoF _ hKF rfl) (by omega)
  .cases hv;have hgl:g<W.heap.size:=(Ab.1 hb).1;have hDg:Y D≠Y g:=by intro e;simp only[Af]at e;subst e;rw[hb]at hK;cases hK
   gi_wp2_with fail
   refine⟨Cm,(Do.2 (cZ0 (HH+3) g p c1 zs W ho hp)).mono ?_⟩;rintro e w4⟨rfl,own4,gr4⟩;have hh4:=(gr4.block HH (by omega) (by simp;omega)).trans hh;have hr4:=(gr4.block w.heap.size (by omega) (by simp;omega)).trans hr0;have hK4:=(gr4.block D hDl hDg).trans hK;have z4:w4.cell? ⟨HH,0,O⟩=Y (Z (Y ⟨g,0,O⟩) p c1):=C' hh4;have hB4:=hB.grown gr4 hB.size (fun j hj=>by cases hj;omega);have hs4:=gr4.size;gi_wp2_with fail
   refine⟨Cm,(Do.2 (bB3 (HH+3) g p c1 _ w4 own4 hp)).mono ?_⟩;rintro e w5⟨rfl,own5,gr5⟩;rw[hwr.out]at own5⊢;have hr5:=(gr5.block w.heap.size (by omega) (by simp;omega)).trans hr4;have hK5:=(gr5.block D (by omega) hDg).trans hK4;have hB5:=hB4.grown gr5 hB4.size (fun j hj=>by cases hj;omega);obtain⟨y0,y1⟩:=cR9 hr5;have f0:=Ax hr5 0;have f1:=Ax hr5 1;have hs5:=gr5.size;generalize hwl:(wrL ts txn).length=m at*;have hF:=Ah (i:=1) (Ah (i:=0) hr5 (I J 0)) (Z (Y ⟨g,0,O⟩) m c1);simp only[Bh,List.set_cons_zero,List.set_cons_succ]at hF;have hKF:=(Fv _ ⟨w.heap.size,1,O⟩ (Z (Y ⟨g,0,O⟩) m c1)).same D _ ((Fv w5 ⟨w.heap.size,0,O⟩ (I J 0)).same D _ hK5 rfl) rfl;have hoF:=Bd (a:=⟨w.heap.size,1,O⟩) (Bd (a:=⟨w.heap.size,0,O⟩) own5 (by simp;omega) (I J 0)) (by simp;omega) (Z (Y ⟨g,0,O⟩) m c1);have hBF:=(hB5.setCell (p:=⟨w.heap.size,0,O⟩) z' (I J 0)).setCell (p:=⟨w.heap.size,1,O⟩) z' (Z (Y ⟨g,0,O⟩) m c1);gi_wp2
   generalize((w5.setCell ⟨w.heap.size,0,O⟩ (I J 0)).setCell ⟨w.heap.size,1,O⟩ (Z (Y ⟨g,0,O⟩) m c1))=Wf at*;obtain⟨q0,q1⟩:=cR9 ((Fi hneD).trans hF:(Wf.putObj D (.deferred O)).heap[w.heap.size]? =_);refine⟨by simp,.inl ⟨_,_,rfl,run_takeDeferred hKF,?_⟩⟩;refine⟨U #[I J 0,Z (Y ⟨g,0,O⟩) m c1],?_,(Y ⟨g,0,O⟩),m,c1,rfl,?_,hBF.trans (belowK_b (w:=w) z' Wf D _ _ (by omega) hKF rfl rfl)⟩
   .simp[results,Tryz.results21,go_sem,q0,q1]
   .exact aQ (ownsRow_putObj hoF _ hKF rfl) (by omega)
 case stop=>rintro D c pre W _ _ h _;exact h.elim
theorem aM7(a:Option Addr)(n cap:Nat)(txn:Int)(ts:List Ac)(w:World)(h:AcAt w a n ts)(hn:n<=1048576):
  Calls prog 21 #[Z a n cap,I J txn] w fun e w'=>∃a' m c',e=R' (U #[I J (wrR ts txn).1,Z a' m c'])/\w'.ownsRow w.heap.size 2 1 (Z a' m c') m (icells (wrR ts txn).2)/\Below w.heap.size w w':=by
 by_cases h0:cQ ts=0
 .cases ht:inB txn 1 999 with
  |true=>rw[bA3 h0 ht];exact aT6 a n cap txn ts w h (by have:=(jA h0).1;have:=h.len.out;omega) h0 ht
  |false=>
   rw[aR4 h0 ht];have hb0:Below w.heap.size w (w.alloc (M #[I J 0,Z O 0 0] 36)):=(Aa _ _).alloc z' _;go_enter func21,ntmps21
   go_wp2_with fail
   refine(lC a n cap ts _ (h.below hb0) hn).mono ?_;rintro e w1⟨rfl,b1⟩;rw[h0];obtain⟨cA,fA⟩:=dH b1;have x0:=cA w.heap.size 0 (by simp);have x1:=cA w.heap.size 1 (by simp);have fx0:=fA w.heap.size 0 (by simp);have fx1:=fA w.heap.size 1 (by simp);clear cA fA;simp[go_sem]at x0 x1 fx0 fx1;have hz:=aD x0;go_wp2_with(go_at_call 55;refine(vZ _ _).mono ?_;rintro e w'⟨rfl,hww⟩;rw[ht,hww];clear hww w')
   refine Ae (v:=U #[I J 3,Z O 0 0]) (by simp[results,Tryz.results21,go_sem,x0,x1]) rfl ⟨O,0,0,rfl,Aw _ _ _ _,?_⟩;exact((aZ b1).setCell (p:=⟨w.heap.size,0,O⟩) z' _).setCell (p:=⟨w.heap.size,1,O⟩) z' _
 .obtain⟨c,HC⟩:∃c,Hid (cQ ts=c):=⟨_,rfl⟩
  have hc:(c !=0)=A':=by rw[<-HC.out];simpa using h0
  rw[aR3 HC.out hc];have hb0:Below w.heap.size w (w.alloc (M #[I J 0,Z O 0 0] 36)):=(Aa _ _).alloc z' _;clear h0;go_enter func21,ntmps21
  go_wp2_with fail
  refine(lC a n cap ts _ (h.below hb0) hn).mono ?_;rintro e w1⟨rfl,b1⟩;rw[HC.out];obtain⟨cA,fA⟩:=dH b1;have x0:=cA w.heap.size 0 (by simp);have x1:=cA w.heap.size 1 (by simp);have fx0:=fA w.heap.size 0 (by simp);have fx1:=fA w.heap.size 1 (by simp);clear cA fA;simp[go_sem]at x0 x1 fx0 fx1;have hz:=aD x0;go_wp2;refine Ae (v:=U #[I J c,Z O 0 0]) (by simp[results,Tryz.results21,go_sem,x0,x1]) rfl ⟨O,0,0,rfl,Aw _ _ _ _,?_⟩;exact((aZ b1).setCell (p:=⟨w.heap.size,0,O⟩) z' _).setCell (p:=⟨w.heap.size,1,O⟩) z' _
end
theorem aU8(a:Option Addr)(n cap:Nat)(txn:Int)(ts:List Ac)(w:World)(h:AcAt w a n ts)(hn:n<=1048576)(hF:cQ ts=0)(ht:inB txn 1 999=A'):
  Calls prog 25 #[Z a n cap,I J txn] w fun e w'=>∃a' m c',e=R' (U #[I J 0,Z a' m c'])/\w'.ownsRow w.heap.size 2 1 (Z a' m c') m (icells (wrL ts txn))/\V' w w':=by
 have HL:=h.len;obtain⟨i0,hi0,hz0,hz1,hz2⟩:=Bz Tryz.info2;have hb0:V' w (w.alloc (M #[I J 0,Z O 0 0] 36)):=(Aa _ _).alloc z' _;have HW:Hid (wrL ts txn=jW ts txn 100):=rfl;rw[HW.out];have HA:Hid (AcAt w a n ts):=h;go_enter func25,ntmps25
 go_wp2_with fail
 refine(nI a n cap ts _ (h.below hb0) hn).mono ?_;rintro e w1⟨rfl,b1⟩;rw[hF];have hR:w1.heap[w.heap.size]? =Y (M #[I J 0,Z O 0 0] 36 (0,0)):=(b1.block w.heap.size (by simp)).trans (Ar w _);have b1:=aZ b1;have lz:=(Ab.1 hR).1;clear h hb0;go_wp2_with(go_at_call 64;refine(pS _ _).mono ?_;rintro e w'⟨rfl,hww⟩;rw[ht,hww];clear hww w')
 obtain⟨OO,hOO⟩:∃OO,Hid (w1.heap.size=OO):=⟨_,rfl⟩
 go_loopw [7] (fun i wr=>∃(k m:Nat) (a':Option Addr) (c':Nat),k<=100/\m<=k/\i=I J k/\wr.heap[w.heap.size]? =Y (M #[I J 0,Z O 0 0] 36 (0,0))/\wr.heap[w1.heap.size]? =Y (M #[I J 0,Z a' m c'] 36 (0,0))/\wr.ownsRow (w1.heap.size+1) 2 1 (Z a' m c') m (icells (jW ts txn k))/\w1.heap.size+1<=wr.heap.size/\V' w wr) (fun i _=>100-(intOf i).toNat)
 case atStart=>exact⟨0,0,O,0,Ad _,z',rfl,(cN lz).trans hR,Ar w1 _,Aw _ _ _ _,by simp,b1.alloc b1.size _⟩
 case round=>
  clear hR;generalize wr=wo at*;obtain⟨k,m,a',c',hk,hmk,rfl,hR,hX,own,hsz,hB⟩:=hrel;obtain⟨x0,x1,f0,f1⟩:=cJ2 hR;obtain⟨y0,y1,g0,g1⟩:=cJ2 hX;have lr:=(Ab.1 hR).1;have lx:=(Ab.1 hX).1;by_cases hlt:k<100
  .have HNx:=hid (bI8 ts txn k);have HNy:Hid (jM ts txn k=A'->jW ts txn (k+1)=jW ts txn k++[(k:Int)]):=fun h=>by rw[HNx.out,if_pos h]
   have HNn:Hid (jM ts txn k=F'->jW ts txn (k+1)=jW ts txn k):=fun h=>by rw[HNx.out,if_neg (by simp[h])];simp
   clear HNx;generalize jW ts txn k=zs at*;have h99:decide ((k:Int)<=99)=A':=by simp;omega
   go_wp2;go_loopw [8] (fun i wx=>∃j:Nat,j<=n/\i=I J j/\Hid ((ts.take j).any (fun t=>t.wr txn&&t.a==(k:Int))=F')/\V' wo wx) (fun i _=>n-(intOf i).toNat)
   case atStart=>exact⟨0,Ad _,rfl,rfl,Aa _ _⟩
   case round=>
    obtain⟨j,hj,rfl,HJ,hBx⟩:=hrel;have hBw:=hB.trans (hBx.mono hB.size);have hRx:=fF hBx hR;have hXx:=fF hBx hX;have ownx:=aG own hBx;have hszx:w1.heap.size+1<=wr.heap.size:=Ak hsz hBx.size;obtain⟨s0,s1,t0,t1⟩:=cJ2 hXx;have ls:=aD s0;by_cases hjl:j<n
    .have hjt:j<ts.length:=by have:=HL.out;omega
     have HJn:=hid (fun h'=>aV2 hjt HJ.out h');have HJy:=hid (fun h'=>HNy.out (bJ0 (txn:=txn) (key:=(k:Int)) hjt h'));obtain⟨b,off,ai,ni,ci,rfl,hd0,hd1,hd2,hd3,hd4,hd5,_,_⟩:=(HA.out.below hBw).act hjl;have hbl:=aD hd0;generalize aM ts j=l at*;obtain⟨tx,kd,p,q,v,an⟩:=l;simp only at hd0 hd1 hd2 hd3 hd4;have HC:Hid (((Ac.mk tx kd p q v an).wr txn&&(Ac.mk tx kd p q v an).a==(k:Int))=(tx==txn&&isW kd&&p==(k:Int))):=rfl;rw[HC.out]at HJn HJy;clear HC hd5;by_cases he:(tx==txn)=A'
     .have IW:=fun W=>xG kd p q v W;cases hw:isW kd with
      |true=>
       rw[hw]at IW;by_cases hp:(p==(k:Int))=A'
       .have HY:=hid (HJy.out (by rw[he,hw,hp];rfl));clear HJn HJy HNn HNy;go_wp2_with fail
        refine(IW _).mono ?_;rintro e w2⟨rfl,b2⟩;have hB2:=hBw.trans (b2.mono hBw.size);have hR2:=fF b2 hRx;have hX2:=fF b2 hXx;have own2:=aG ownx b2;have z2:=b2.size;replace hd2:=keep_cell b2 hd2;have t1:=keep_cell b2 s1;have lt1:=aD t1;have hbl2:=aD hd2;have hsum:m+1<=4194304:=by omega
        have kQ:V' w2 (w2.alloc (M #[I J (k:Int)] 2)):=(Aa _ _).alloc z' _;have own3:=aG own2 kQ;have hX3:=fF kQ hX2;have hR3:=fF kQ hR2;have hC3:=jE w2 (k:Int) 2;have hb3:w1.heap.size+1<=(w2.alloc (M #[I J (k:Int)] 2)).heap.size:=by simp;omega
        have b3:=hB2.trans (kQ.mono hB2.size);clear hd0 hd1 hd3 hd4;go_wp2_with(at_builtin;go_must (refine bM underlying27 underlying27 hi0 hz0 hz1 hz2 rfl (by omega) (by omega) (.tmp 56) (.tmp 58) ?_ ?_ (w1.heap.size+1) (Z a' m c') m (icells zs) _ 1 1 (icells [(k:Int)]) ?_ ?_ own3 hC3 (dC [(k:Int)]) hsum hb3 ?_;exact rfl;exact rfl;exact rfl;exact rfl;intro a5 c5 w5 own5 gr5 at5;have hX5:=cV gr5 hX3 (tG own3 (by omega));have hR5:=cV gr5 hR3 (tG own3 (by omega));obtain⟨v0,v1,e0,e1⟩:=cJ2 hX5;have lv:=aD v0;go_frame))
        go_roundw;case rel=>
         rw[<-dW,<-HY.out]at own5;have b5:=b3.grown gr5 b3.size (fun g hg=>by have:=(aH own3 g hg).1;omega);refine⟨k+1,m+1,a5,c5,by omega,by omega,by go_num,?_,?_,?_,?_,b5.setCell (p:=⟨w1.heap.size,1,O⟩) (by show w.heap.size<=w1.heap.size;omega) _⟩
         .exact(Bu _ _ _ _ (by show w.heap.size≠w1.heap.size;omega)).trans hR5
         .have:=Ah (i:=1) hX5 (Z a5 (m+1) c5);simpa using this
         .exact Bd own5 (by show w1.heap.size<w1.heap.size+1;omega) _
         .have:=gr5.size;simp at this⊢;omega
        case measure=>simp[intOf];omega
       .have hp':(p==(k:Int))=F':=by simpa using hp
        have HN:=hid (HJn.out (by rw[he,hw,hp'];rfl));clear HJn HJy hp;go_wp2_with fail
        refine(IW _).mono ?_;rintro e w2⟨rfl,b2⟩;replace hd2:=keep_cell b2 hd2;have hbl2:=aD hd2;go_wp2;go_roundw;case rel=>exact⟨j+1,by omega,by go_num,HN,hBx.trans (b2.mono hBx.size)⟩
        case measure=>simp[intOf];omega
      |false=>
       rw[hw]at IW;have HN:=hid (HJn.out (by rw[he,hw];rfl));clear HJn HJy;go_wp2_with fail
       refine(IW _).mono ?_;rintro e w2⟨rfl,b2⟩;go_wp2;go_roundw;case rel=>exact⟨j+1,by omega,by go_num,HN,hBx.trans (b2.mono hBx.size)⟩
       case measure=>simp[intOf];omega
     .have he':(tx==txn)=F':=by simpa using he
      have HN:=hid (HJn.out (by rw[he'];rfl));clear HJn HJy he;go_wp2;go_roundw;case rel=>exact⟨j+1,by omega,by go_num,HN,hBx⟩
      case measure=>simp[intOf];omega
    .obtain rfl:j=n:=by omega
     have HY:=hid (HNn.out (by have h1:=HJ.out;have h2:=HL.out;rw[h2,Be]at h1;exact h1));go_wp2;go_roundw;case rel=>exact⟨k+1,m,a',c',by omega,by omega,by go_num,hRx,hXx,by rw[HY.out];exact ownx,hszx,hBw⟩
     case measure=>simp[intOf];omega
  .obtain rfl:k=100:=by omega
   go_wp2;refine Ae (v:=U #[I J 0,Z a' m c']) (by simp[results,Tryz.results25,go_sem,x0,x1,y0,y1]) rfl ⟨a',m,c',rfl,?_,?_⟩
   .refine aQ (base:=w1.heap.size+1) (Bd (Bd own ?_ _) ?_ _) (by omega)
    .show w.heap.size<w1.heap.size+1;omega
    .show w.heap.size<w1.heap.size+1;omega
   .exact(hB.setCell (p:=⟨w.heap.size,0,O⟩) z' _).setCell (p:=⟨w.heap.size,1,O⟩) z' _
theorem aP8(a:Option Addr)(n cap:Nat)(txn:Int)(ts:List Ac)(w:World)(h:AcAt w a n ts)(hn:n<=1048576):
  Calls prog 25 #[Z a n cap,I J txn] w fun e w'=>∃a' m c',e=R' (U #[I J (wrR ts txn).1,Z a' m c'])/\w'.ownsRow w.heap.size 2 1 (Z a' m c') m (icells (wrR ts txn).2)/\V' w w':=by
 by_cases h0:cQ ts=0
 .cases ht:inB txn 1 999 with
  |true=>rw[bA3 h0 ht];exact aU8 a n cap txn ts w h hn h0 ht
  |false=>
   rw[aR4 h0 ht];have hb0:V' w (w.alloc (M #[I J 0,Z O 0 0] 36)):=(Aa _ _).alloc z' _;go_enter func25,ntmps25
   go_wp2_with fail
   refine(nI a n cap ts _ (h.below hb0) hn).mono ?_;rintro e w1⟨rfl,b1⟩;rw[h0];obtain⟨cA,fA⟩:=dH b1;have x0:=cA w.heap.size 0 (by simp);have x1:=cA w.heap.size 1 (by simp);have fx0:=fA w.heap.size 0 (by simp);have fx1:=fA w.heap.size 1 (by simp);clear cA fA;simp[go_sem]at x0 x1 fx0 fx1;have hz:=aD x0;go_wp2_with(go_at_call 64;refine(pS _ _).mono ?_;rintro e w'⟨rfl,hww⟩;rw[ht,hww];clear hww w')
   refine Ae (v:=U #[I J 3,Z O 0 0]) (by simp[results,Tryz.results25,go_sem,x0,x1]) rfl ⟨O,0,0,rfl,Aw _ _ _ _,?_⟩;exact((aZ b1).setCell (p:=⟨w.heap.size,0,O⟩) z' _).setCell (p:=⟨w.heap.size,1,O⟩) z' _
 .obtain⟨c,HC⟩:∃c,Hid (cQ ts=c):=⟨_,rfl⟩
  have hc:(c !=0)=A':=by rw[<-HC.out];simpa using h0
  rw[aR3 HC.out hc];have hb0:V' w (w.alloc (M #[I J 0,Z O 0 0] 36)):=(Aa _ _).alloc z' _;clear h0;go_enter func25,ntmps25
  go_wp2_with fail
  refine(nI a n cap ts _ (h.below hb0) hn).mono ?_;rintro e w1⟨rfl,b1⟩;rw[HC.out];obtain⟨cA,fA⟩:=dH b1;have x0:=cA w.heap.size 0 (by simp);have x1:=cA w.heap.size 1 (by simp);have fx0:=fA w.heap.size 0 (by simp);have fx1:=fA w.heap.size 1 (by simp);clear cA fA;simp[go_sem]at x0 x1 fx0 fx1;have hz:=aD x0;go_wp2;refine Ae (v:=U #[I J c,Z O 0 0]) (by simp[results,Tryz.results25,go_sem,x0,x1]) rfl ⟨O,0,0,rfl,Aw _ _ _ _,?_⟩;exact((aZ b1).setCell (p:=⟨w.heap.size,0,O⟩) z' _).setCell (p:=⟨w.heap.size,1,O⟩) z' _
theorem oF{a b:Bool}(h:a=b):R' (X a)=R' (X b):=by rw[h]
theorem ForbF.below{w':World}{f:Ac}(h:ForbF w f fv)(hb:V' w w'):ForbF w' f fv:=by
 rcases h with⟨B,h1,h2,h3⟩|⟨B,h1,h2,h3⟩|h
 .exact .inl ⟨B,h1,h2.below hb,h3⟩
 .exact .inr (.inl ⟨B,h1,h2.below hb,h3⟩)
 .exact .inr (.inr h)
theorem aT5(a:Option Addr)(n cap:Nat)(ts:List Ac)(w:World)(h:AcAt w a n ts)(hn:n<=1048576)(hcap:n<=cap)(hcm:cap<=9223372036854775807)(hF:cQ ts=0):
  Calls prog 23 #[Z a n cap] w fun e w'=>e=R' (X (dZ ts))/\V' w w':=by
 have HL:=h.len;obtain⟨S,HS⟩:∃S,Hid (dZ ts=S):=⟨_,rfl⟩
 rw[HS.out];go_enter func23,ntmps23
 go_wp2;go_step3
 go_wp2_with fail
 refine(lC a n cap ts _ h hn).mono ?_;rintro e w1⟨rfl,b1⟩;rw[hF];have h1:=h.below b1;go_wp2;go_step3
 go_wp2;go_loopw [3,14] (fun st i wr=>∃k:Nat,k<=n/\st=X A'/\i=I J k/\Hid (dZ (ts.drop k)=S)/\V' w wr) (fun _ i _=>n-(intOf i).toNat)
 case atStart=>exact⟨0,Ad _,rfl,rfl,(by show _=_;rw[Gf];exact HS.out),b1⟩
 case round=>
  obtain⟨k,hk,rfl,rfl,HI,hB⟩:=hrel;by_cases hlt:k<n
  .have hkl:Hid (k<ts.length):=by show _<_;have:=HL.out;omega
   obtain⟨b,off,ai,ni,ci,rfl,hc0,hc1,hc2,hc3,hc4,hc5,_,_⟩:=(h.below hB).act hlt;have HF:Hid (dG (aM ts k) (ts.drop (k+1))=F'->S=F'):=fun h=>(HI.out.symm.trans (aA6 hkl.out h))
   have HT:Hid (dG (aM ts k) (ts.drop (k+1))=A'->dZ (ts.drop (k+1))=S):=fun h=>((aA7 hkl.out h).symm.trans HI.out)
   generalize aM ts k=f at*;obtain⟨tx,kd,p,q,v,an⟩:=f;simp only at hc0 hc1 hc2 hc3 hc4;have hbl:=aD hc0;go_wp2_with fail
   refine(aS9 tx kd p q v _ an _).mono ?_;rintro e w2⟨fv,rfl,hfv,b2⟩;have hB2:V' w w2:=hB.trans ((aZ b2).mono hB.size);have x0:=aU b2 0;simp at x0;have hb2:=aD x0;clear b2 hc0 hc1 hc2 hc3 hc4 hc5;by_cases hk1:k+1<n
   .have hcl:k+1<cap:=by omega
    have HA:Hid (AcAt w (Y ⟨b,off,O⟩) n ts):=h;have HB2:=hid hB2;clear h1 hB HI h;go_wp2;go_loopw [3,26] (fun st i wx=>∃j:Nat,j<=n-(k+1)/\st=X A'/\i=I J j/\Hid (dG ⟨tx,kd,p,q,v,an⟩ (ts.drop (k+1))=dG ⟨tx,kd,p,q,v,an⟩ (ts.drop (k+1+j)))/\V' w2 wx) (fun _ i _=>n-(intOf i).toNat)
    case atStart=>exact⟨0,Ad _,rfl,rfl,rfl,Aa _ _⟩
    case round=>
     obtain⟨j,hj,rfl,rfl,HJ,hBx⟩:=hrel;generalize hwx:wr=wx at*;clear hwx;have hBB:V' w wx:=HB2.out.trans (hBx.mono HB2.out.size);by_cases hjl:j<n-(k+1)
     .obtain⟨b',off',ai',ni',ci',hab,hd0,hd1,hd2,hd3,hd4,hd5,_,_⟩:=(HA.out.below hBB).act (k:=k+1+j) (by omega);simp only[Af,Ap,Cn]at hab;obtain⟨rfl,rfl⟩:=hab;rw[show off+(k+1+j)*6=off+(k+1)*6+j*6 by omega]at hd0 hd1 hd2 hd3 hd4 hd5;have HD:=hid (zB (ts:=ts) (k:=k+1+j) (by have:=HL.out;omega));generalize aM ts (k+1+j)=l at*;obtain⟨ltx,lk,la,lb,lv,lan⟩:=l;simp only at hd0 hd1 hd2 hd3 hd4;have y0:=keep_cell hBx x0;have hbx:=aD y0;have hbd:=aD hd0;have HFx:=hfv.below hBx;have HR:Hid (dG ⟨tx,kd,p,q,v,an⟩ (ts.drop (k+1))=dG ⟨tx,kd,p,q,v,an⟩ (⟨ltx,lk,la,lb,lv,lan⟩::ts.drop (k+1+j+1))):=by show _=_;rw[HJ.out,HD.out]
      clear HJ HD;obtain⟨Zq,HZ⟩:∃Zq,Hid (eY ⟨tx,kd,p,q,v,an⟩ ⟨ltx,lk,la,lb,lv,lan⟩=Zq):=⟨_,rfl⟩
      have HY:Hid (Zq=A'->S=F'):=fun hz=>HF.out (by rw[HR.out];exact yL (HZ.out.trans hz));have HO:Hid (Zq=F'->(ltx==tx&&isE lk)=A'->dZ (ts.drop (k+1))=S):=fun hz he=>HT.out (by rw[HR.out];exact aF5 (HZ.out.trans hz) he);have HN:Hid (Zq=F'->(ltx==tx&&isE lk)=F'->dG ⟨tx,kd,p,q,v,an⟩ (ts.drop (k+1))=dG ⟨tx,kd,p,q,v,an⟩ (ts.drop (k+1+(j+1)))):=fun hz he=>by rw[HR.out];exact aB9 (HZ.out.trans hz) he
      clear HR;rcases HFx with⟨B,rfl,h2,h3⟩|⟨B,rfl,h2,h3,h4⟩|⟨rfl,h3,h4⟩
      .have IC:=fun W (hW:V' wx W)=>cV1 _ B ltx lk la lb lv (Z ai' ni' ci') W (h2.below hW) lan h3;rw[HZ.out]at IC;clear HZ h2 h3 hfv;go_wp2_with fail
       refine(IC _ ((Aa _ _).alloc z' _)).mono ?_;rintro e w3⟨rfl,b3⟩;have hBc:V' w2 w3:=hBx.trans ((aZ b3).mono hBx.size);have hBBc:V' w w3:=hBB.trans ((aZ b3).mono hBB.size);have z0:=aU b3 0;have z1:=aU b3 1;simp at z0 z1;have y0':=keep_cell hBc x0;have hbz:=aD z0;have hbz':=aD y0';clear IC b3 hd0 hd1 hd2 hd3 hd4 hd5 y0;cases Zq with
       |true=>have HZ:=hid (HY.out rfl);clear HY HO HN;go_wp2;rw[Exit.noGoto_ret];go_ret;exact⟨oF HZ.out.symm,hBBc⟩
       |false=>
        by_cases he:(ltx==tx)=A'
        .cases hE:isE lk with
         |true=>
          have HZ:=hid (HO.out rfl (by rw[he,hE];rfl));clear HY HO HN;go_wp2_with(go_at_call 62;refine(mK _ _).mono ?_;rintro e w'⟨rfl,rfl⟩;rw[hE])
          go_roundw;case rel=>exact⟨k+1,by omega,rfl,by go_num,HZ,hBBc⟩
          case measure=>simp[intOf];omega
         |false=>
          have HZ:=hid (HN.out rfl (by rw[he,hE];rfl));clear HY HO HN;go_wp2_with(go_at_call 62;refine(mK _ _).mono ?_;rintro e w'⟨rfl,rfl⟩;rw[hE])
          go_roundw;case rel=>exact⟨j+1,by omega,rfl,by go_num,HZ,hBc⟩
          case measure=>simp[intOf];omega
        .have he':(ltx==tx)=F':=by simpa using he
         have HZ:=hid (HN.out rfl (by rw[he'];rfl));clear HY HO HN he;go_wp2;go_roundw;case rel=>exact⟨j+1,by omega,rfl,by go_num,HZ,hBc⟩
         case measure=>simp[intOf];omega
      .have IC:=fun W (hW:V' wx W)=>cV2 _ B ltx lk la lb lv (Z ai' ni' ci') W (h2.below hW) lan h3 h4;rw[HZ.out]at IC;clear HZ h2 h3 h4 hfv;go_wp2_with fail
       refine(IC _ ((Aa _ _).alloc z' _)).mono ?_;rintro e w3⟨rfl,b3⟩;have hBc:V' w2 w3:=hBx.trans ((aZ b3).mono hBx.size);have hBBc:V' w w3:=hBB.trans ((aZ b3).mono hBB.size);have z0:=aU b3 0;have z1:=aU b3 1;simp at z0 z1;have y0':=keep_cell hBc x0;have hbz:=aD z0;have hbz':=aD y0';clear IC b3 hd0 hd1 hd2 hd3 hd4 hd5 y0;cases Zq with
       |true=>have HZ:=hid (HY.out rfl);clear HY HO HN;go_wp2;rw[Exit.noGoto_ret];go_ret;exact⟨oF HZ.out.symm,hBBc⟩
       |false=>
        by_cases he:(ltx==tx)=A'
        .cases hE:isE lk with
         |true=>
          have HZ:=hid (HO.out rfl (by rw[he,hE];rfl));clear HY HO HN;go_wp2_with(go_at_call 62;refine(mK _ _).mono ?_;rintro e w'⟨rfl,rfl⟩;rw[hE])
          go_roundw;case rel=>exact⟨k+1,by omega,rfl,by go_num,HZ,hBBc⟩
          case measure=>simp[intOf];omega
         |false=>
          have HZ:=hid (HN.out rfl (by rw[he,hE];rfl));clear HY HO HN;go_wp2_with(go_at_call 62;refine(mK _ _).mono ?_;rintro e w'⟨rfl,rfl⟩;rw[hE])
          go_roundw;case rel=>exact⟨j+1,by omega,rfl,by go_num,HZ,hBc⟩
          case measure=>simp[intOf];omega
        .have he':(ltx==tx)=F':=by simpa using he
         have HZ:=hid (HN.out rfl (by rw[he'];rfl));clear HY HO HN he;go_wp2;go_roundw;case rel=>exact⟨j+1,by omega,rfl,by go_num,HZ,hBc⟩
         case measure=>simp[intOf];omega
      .have IC:=fun W (hW:V' wx W)=>cV3 _ ltx lk la lb lv (Z ai' ni' ci') W lan h3 h4;rw[HZ.out]at IC;clear HZ h3 h4 hfv;go_wp2_with fail
       refine(IC _ ((Aa _ _).alloc z' _)).mono ?_;rintro e w3⟨rfl,b3⟩;have hBc:V' w2 w3:=hBx.trans ((aZ b3).mono hBx.size);have hBBc:V' w w3:=hBB.trans ((aZ b3).mono hBB.size);have z0:=aU b3 0;have z1:=aU b3 1;simp at z0 z1;have y0':=keep_cell hBc x0;have hbz:=aD z0;have hbz':=aD y0';clear IC b3 hd0 hd1 hd2 hd3 hd4 hd5 y0;cases Zq with
       |true=>have HZ:=hid (HY.out rfl);clear HY HO HN;go_wp2;rw[Exit.noGoto_ret];go_ret;exact⟨oF HZ.out.symm,hBBc⟩
       |false=>
        by_cases he:(ltx==tx)=A'
        .cases hE:isE lk with
         |true=>
          have HZ:=hid (HO.out rfl (by rw[he,hE];rfl));clear HY HO HN;go_wp2_with(go_at_call 62;refine(mK _ _).mono ?_;rintro e w'⟨rfl,rfl⟩;rw[hE])
          go_roundw;case rel=>exact⟨k+1,by omega,rfl,by go_num,HZ,hBBc⟩
          case measure=>simp[intOf];omega
         |false=>
          have HZ:=hid (HN.out rfl (by rw[he,hE];rfl));clear HY HO HN;go_wp2_with(go_at_call 62;refine E' (mK _ _) ?_;rw[hE])
          go_roundw;case rel=>exact⟨j+1,by omega,rfl,by go_num,HZ,hBc⟩
          case measure=>simp[intOf];omega
        .have he':(ltx==tx)=F':=by simpa using he
         have HZ:=hid (HN.out rfl (by rw[he'];rfl));clear HY HO HN he;go_wp2;go_roundw;case rel=>exact⟨j+1,by omega,rfl,by go_num,HZ,hBc⟩
         case measure=>simp[intOf];omega
     .obtain rfl:j=n-(k+1):=by omega
      have HR:Hid (dZ (ts.drop (k+1))=S):=HT.out (by have h1:=HJ.out;rw[Cb (show ts.length<=k+1+(n-(k+1))by have:=HL.out;omega)]at h1;exact h1)
      go_wp2;go_roundw;case rel=>exact⟨k+1,by omega,rfl,by go_num,HR,hBB⟩
      case measure=>simp[intOf];omega
   .have hk1':k+1=n:=by omega
    have HR:Hid (dZ (ts.drop (k+1))=S):=HT.out (by rw[Cb (show ts.length<=k+1 by have:=HL.out;omega)];rfl);clear h1 HI h hfv;by_cases hcc:k+1<cap
    .go_wp2;go_loopw [3,26] (fun st i wx=>st=X A'/\i=I J 0/\V' w wx) (fun _ i _=>n-(intOf i).toNat)
     case atStart=>exact⟨rfl,rfl,hB2⟩
     case round=>
      obtain⟨rfl,rfl,hB3⟩:=hrel;go_wp2;go_roundw;case rel=>exact⟨k+1,by omega,rfl,by go_num,HR,hB3⟩
      case measure=>simp[intOf];omega
    .obtain rfl:cap=n:=by omega
     clear hcc hcap;go_wp2;go_loopw [3,26] (fun st i wx=>st=X A'/\i=I J 0/\V' w wx) (fun _ i _=>cap-(intOf i).toNat)
     case atStart=>exact⟨rfl,rfl,hB2⟩
     case round=>
      obtain⟨rfl,rfl,hB3⟩:=hrel;go_wp2;go_roundw;case rel=>exact⟨k+1,by omega,rfl,by go_num,HR,hB3⟩
      case measure=>simp[intOf];omega
  .obtain rfl:k=n:=by omega
   have HZ:Hid (A'=S):=by have h1:=HI.out;have h2:=HL.out;rw[h2,List.drop_length]at h1;exact h1
   go_wp2;rw[Exit.noGoto_ret];go_ret;exact⟨oF HZ.out,hB⟩
theorem aM6(a:Option Addr)(n cap:Nat)(ts:List Ac)(w:World)(h:AcAt w a n ts)(hn:n<=1048576)(hcap:n<=cap)(hcm:cap<=9223372036854775807):
  Calls prog 23 #[Z a n cap] w fun e w'=>e=R' (X (mH ts))/\V' w w':=by
 by_cases h0:cQ ts=0
 .rw[xQ h0];exact aT5 a n cap ts w h hn hcap hcm h0
 .have h0':(cQ ts !=0)=A':=by simpa using h0
  rw[vR h0'];have IA:=fun W hW=>lC a n cap ts W hW hn;generalize cQ ts=c at*;clear h0;go_enter func23,ntmps23
  go_wp2;go_step3
  go_wp2_with fail
  refine(IA _ h).mono ?_;rintro e w1⟨rfl,b1⟩;go_wp2;rw[Exit.noGoto_ret];go_ret;exact⟨rfl,b1⟩
end Go.Proofs.YtpbbokalojdooaaGreat
