
/- ReadRecs of the program, by the iterator. -/
import Derived.Test.YtommekhmdmnjlaaCountW
namespace Go.Proofs.Ytommekhmdmnjlaa
open Go.RowKit Go.Shelf

attribute [local go_sem] Oper.semAt_some

theorem wpListIn_app7 {F : Fence} {d : Nat} {ops : Array Oper} {rest : List Oper} {o : Oper} {a : Act} {w : World} {Q : Exit → Act → World → Prop} (s x : Operand)
    (B : Nat) (v : Value) (n : Nat) (rs : List Ch.Rec) (r : Ch.Rec) (hn : n ≤ 1048576)
    (ho : o.op = .call { callee := .builtin .append, args := #[s, x], argTypes := #[31, 31] }) (hgd : o.guard = none)
    (hs : a.eval s = v) (hx : ∃ h c t, a.eval x = .slice (some ⟨h, 0, none⟩) 1 c ∧ w.heap[h]? = some (.cells (c7 r).toArray t (0, 0)))
    (hown : w.ownsRow B 38 7 v n (rc7 rs)) (hbase : B ≤ w.heap.size)
    (hK : ∀ g' cp' w', w'.ownsRow B 38 7 (.slice (some ⟨g', 0, none⟩) (n + 1) cp') (n + 1) (rc7 (rs ++ [r])) → Below B w w' → KeepsOthers w w' → wpListIn F d Try.prog ops Q rest (a.put o.dst (.slice (some ⟨g', 0, none⟩) (n + 1) cp')) w') :
    wpListIn F d Try.prog ops Q (o :: rest) a w := by
  obtain ⟨h, c, t, hx, hblk⟩ := hx
  obtain ⟨i0, hi, hz0, hz1, hz2⟩ := info_parts Try.info38
  refine wpListIn_append_own w hgd s x 31 ho B 38 i0 _ 7 56 Try.underlying31 hi hz0 hz1 hz2 rfl (by omega) v n (rc7 rs) hs hown ⟨h, 0, none⟩ 1 c (c7 r) hx rfl (World.news_of_block hblk) (by simp [c7, Value.oneCell']) (by unfold maxLen; omega) (by omega) hbase ?_
  intro v' w' hown' hgrow _
  rw [← rc7_snoc] at hown'
  obtain ⟨g', cap', rfl⟩ := ownsRow_succ hown'
  refine hK g' cap' w' hown' ((Below.refl _ _).grown hgrow hbase (fun k hk => ?_)) (KeepsOthers.of_grownBy hgrow (fun j ob hj hob => ?_))
  · rcases hown.2 with ⟨hv, _⟩ | ⟨g, cap', cur, hv, hb, _⟩
    · subst hv; simp [Value.ownBlock] at hk
    · subst hv; simp [Value.ownBlock] at hk; omega
  · rcases hown.2 with ⟨hv, _⟩ | ⟨g, cap', cur, hv, hb, hh, _⟩
    · subst hv; simp [Value.ownBlock] at hj
    · subst hv
      simp [Value.ownBlock] at hj
      subst hj
      rw [hh] at hob
      cases hob
      rfl

theorem row3 {W : World} {g : Nat} {t : TypeId} {u0 u1 u2 : Value} (h : W.heap[g]? = some (.cells #[u0, u1, u2] t (0, 0))) :
    W.cell? ⟨g, 0, none⟩ = some u0 ∧ W.cell? ⟨g, 1, none⟩ = some u1 ∧ W.cell? ⟨g, 2, none⟩ = some u2 :=
  ⟨cell_of_row _ _ _ _ _ _ h, cell_of_row _ _ _ _ _ _ h, cell_of_row _ _ _ _ _ _ h⟩

/-- How much the records that have come use. -/
def Ch.lastEnd (pre : List (Int × Ch.Rec)) : Int := (pre.getLast?.map (·.1)).getD 0
theorem Ch.lastEnd_snoc (pre : List (Int × Ch.Rec)) (x : Int × Ch.Rec) : Ch.lastEnd (pre ++ [x]) = x.1 := by simp [Ch.lastEnd]
theorem Ch.lastEnd_ends (rs : List Ch.Rec) : Ch.lastEnd (Ch.ends 0 rs) = Ch.lenOf rs := by
  rcases List.eq_nil_or_concat rs with rfl | ⟨rs, r, rfl⟩
  · rfl
  · rw [List.concat_eq_append, Ch.ends_snoc, Ch.lastEnd_snoc, Ch.lenOf_append]
    simp [Ch.lenOf]

theorem owns_cellsB {W W' : World} {row : Option Nat} {base : Nat} {e : TypeId} {size : Nat} {v : Value} {n : Nat} {xs : List Value} (h : W.ownsRow base e size v n xs) (hg : W.grownBy W' row) (hr : ∀ r, row = some r → ∃ o : Obj, W.heap[r]? = some o ∧ o.isCells = false) : W'.ownsRow base e size v n xs := by
  refine owns_grown h hg (fun g hv hrow => ?_)
  obtain ⟨o, ho, hc⟩ := hr g hrow
  rcases h.2 with ⟨hv', _⟩ | ⟨g', cap', cur, hv', hb, hh, _⟩
  · subst hv'; simp [Value.ownBlock] at hv
  · subst hv'
    simp [Value.ownBlock] at hv
    subst hv
    rw [hh] at ho
    cases ho
    cases hc

theorem block_kept {W W' : World} {row : Option Nat} {g : Nat} {cs : Array Value} {t : TypeId} (h : W.heap[g]? = some (.cells cs t (0, 0))) (hg : W.grownBy W' row) (hr : ∀ r, row = some r → ∃ o : Obj, W.heap[r]? = some o ∧ o.isCells = false) : W'.heap[g]? = some (.cells cs t (0, 0)) := by
  have hlt : g < W.heap.size := (Array.getElem?_eq_some_iff.1 h).1
  rw [hg.block g hlt (fun e => ?_)]
  · exact h
  · obtain ⟨o, ho, hc⟩ := hr g e.symm
    rw [h] at ho
    cases ho
    cases hc

set_option maxHeartbeats 400000 in
theorem implRead_big (a : Option Addr) (n cap : Nat) (w : World) (hn : 4000 < n) (hm : n ≤ 9223372036854775807) :
    Calls Try.prog 14 #[.slice a n cap] w fun e w' => e = .returned (.agg #[.int .i64 2, .int .i64 0, .slice none 0 0]) ∧ Below w.heap.size w w' := by
  have i1 : (4000 : Int) < (n : Int) := by omega
  refine (callsIn_wide (n := 6)).1 ?_
  refine callsIn_of_wp_marks Try.func14 rfl trivial ?_ rfl
  simp only [Try.ntmps14, List.size_toArray, List.length_cons, List.length_nil, Nat.reduceAdd, Nat.reduceSub, Array.replicate_succ, Array.replicate_zero, List.push_toArray, List.append_toArray, List.nil_append, List.cons_append]
  gi_wp2_with fail
  refine ⟨.agg #[.int .i64 2, .int .i64 0, .slice none 0 0], ?_, rfl, (Below.refl _ _).alloc (Nat.le_refl _) _⟩
  simp [results, Try.results14, go_sem]

set_option maxRecDepth 100000 in
set_option maxHeartbeats 4000000 in
theorem implRead_ok (a : Option Addr) (n cap : Nat) (zs : List Int) (w : World) (h : CellsAt w a n (bts zs)) (hb : IsB zs) (hn : n ≤ 4000) (hcap : n ≤ cap) :
    Calls Try.prog 14 #[.slice a n cap] w fun e w' => ∃ a' c', e = .returned (.agg #[.int .i64 0, .int .i64 (Ch.used zs), .slice a' (Ch.reads zs).length c']) ∧ w'.ownsRow w.heap.size 38 7 (.slice a' (Ch.reads zs).length c') (Ch.reads zs).length (rc7 (Ch.reads zs)) ∧ Below w.heap.size w w' := by
  have hrl : 5 * (Ch.reads zs).length ≤ n := Nat.le_trans (Ch.reads_le zs) (by have := Ch.used_le zs; have := h.len.out; omega)
  have i1 : ¬ (4000 : Int) < (n : Int) := by omega
  refine (callsIn_wide (n := 6)).1 ?_
  refine callsIn_of_wp_marks Try.func14 rfl trivial ?_ rfl
  simp only [Try.ntmps14, List.size_toArray, List.length_cons, List.length_nil, Nat.reduceAdd, Nat.reduceSub, Array.replicate_succ, Array.replicate_zero, List.push_toArray, List.append_toArray, List.nil_append, List.cons_append]
  gi_wp2_with fail
  refine ⟨trivial, (callsIn_wide.2 (recsOf_any a n cap _)).mono ?_⟩
  rintro e w' ⟨rfl, rfl⟩
  gi_wp2_with fail
  have hB0 : Below w.heap.size w (((w.alloc (.cells #[.int .i64 0, .int .i64 0, .slice none 0 0] 33)).alloc (.cells #[.int .i64 0, .int .i64 0, .slice none 0 0] 33)).alloc (.cells #[.slice a n cap] 22)) := by
    refine Below.alloc (Below.alloc (Below.alloc (Below.refl _ w) (Nat.le_refl _) _) ?_ _) ?_ _
    · simp
    · simp; omega
  have hcB : (((w.alloc (.cells #[.int .i64 0, .int .i64 0, .slice none 0 0] 33)).alloc (.cells #[.int .i64 0, .int .i64 0, .slice none 0 0] 33)).alloc (.cells #[.slice a n cap] 22)).cell? ⟨w.heap.size + 2, 0, none⟩ = some (.slice a n cap) := by
    have := cell_of_row _ (w.heap.size + 2) 0 #[.slice a n cap] 22 (0, 0) (heap_new' (w := (w.alloc (.cells #[.int .i64 0, .int .i64 0, .slice none 0 0] 33)).alloc (.cells #[.int .i64 0, .int .i64 0, .slice none 0 0] 33)) (by simp))
    exact this
  have hR0 : (((w.alloc (.cells #[.int .i64 0, .int .i64 0, .slice none 0 0] 33)).alloc (.cells #[.int .i64 0, .int .i64 0, .slice none 0 0] 33)).alloc (.cells #[.slice a n cap] 22)).heap[w.heap.size]? = some (.cells #[.int .i64 0, .int .i64 0, .slice none 0 0] 33 (0, 0)) := by
    refine (heap_old' ?_).trans ((heap_old' ?_).trans (heap_new' rfl))
    · simp; omega
    · simp
  have hR1 : (((w.alloc (.cells #[.int .i64 0, .int .i64 0, .slice none 0 0] 33)).alloc (.cells #[.int .i64 0, .int .i64 0, .slice none 0 0] 33)).alloc (.cells #[.slice a n cap] 22)).heap[w.heap.size + 1]? = some (.cells #[.int .i64 0, .int .i64 0, .slice none 0 0] 33 (0, 0)) := by
    refine (heap_old' ?_).trans (heap_new' ?_)
    · simp
    · simp
  have hs0 : (((w.alloc (.cells #[.int .i64 0, .int .i64 0, .slice none 0 0] 33)).alloc (.cells #[.int .i64 0, .int .i64 0, .slice none 0 0] 33)).alloc (.cells #[.slice a n cap] 22)).heap.size = w.heap.size + 3 := by simp
  generalize hW0 : (((w.alloc (.cells #[.int .i64 0, .int .i64 0, .slice none 0 0] 33)).alloc (.cells #[.int .i64 0, .int .i64 0, .slice none 0 0] 33)).alloc (.cells #[.slice a n cap] 22)) = W0 at *
  refine wpIn_rangeFunc_ownH rfl (by decide) (gf := 59) (lb := #[.pointer (some ⟨w.heap.size + 2, 0, none⟩)]) rfl trivial (enters_of Try.func59 (by kernel_rfl) rfl)
    (recs_stops 5 (w.heap.size + 2) (by decide) a n cap zs w W0 h hb (by omega) hcap hB0 hcB) KpB.t (KpB.b (by omega)) (Below.refl _ _) (fun _ => rfl)
    (fun pre W => (∃ a' c', W.heap[w.heap.size + 1]? = some (.cells #[.int .i64 0, .int .i64 (Ch.lastEnd pre), .slice a' pre.length c'] 33 (0, 0)) ∧ W.ownsRow (w.heap.size + 3) 38 7 (.slice a' pre.length c') pre.length (rc7 (pre.map (·.2)))) ∧ W.heap[w.heap.size]? = some (.cells #[.int .i64 0, .int .i64 0, .slice none 0 0] 33 (0, 0)) ∧ w.heap.size + 3 ≤ W.heap.size ∧ Below w.heap.size w W)
    (fun _ _ _ => False)
    ?hI (fun _ _ _ _ _ hs _ _ => hs)
    ⟨⟨none, 0, hR1, World.ownsRow_nil _ _ _ _⟩, hR0, by omega, hB0⟩
    (fun x a' W => ∃ Bx, w.heap.size + 3 ≤ Bx ∧ W.heap[Bx]? = some (.cells (c7 x.2).toArray 38 (0, 0)) ∧ a' = { tmps := #[.slice a n cap, undef, .pointer (some ⟨w.heap.size, 0, none⟩), .pointer (some ⟨w.heap.size + 1, 0, none⟩), .int .i64 x.1, .pointer (some ⟨Bx, 0, none⟩), .slice a n cap, .int .i64 n, .bool false, undef, .slice a n cap, .func (.func 59) #[] #[.pointer (some ⟨w.heap.size + 2, 0, none⟩)], .int .i64 x.1, .agg #[.int .i64 x.2.kd, .int .i64 x.2.tx, .int .i64 x.2.ky, .bool x.2.hd, .int .i64 x.2.ol, .bool x.2.hs, .int .i64 x.2.nw], undef, undef, undef, undef, undef, undef, undef, undef, undef], defers := [] })
    ?hAx ?assign ?body ?done ?stop
  case hI =>
    rintro s A B row ⟨⟨a', c', hh, ho⟩, hr0, hz, hB⟩ hg hr
    exact ⟨⟨a', c', block_kept hh hg (fun r e => (hr r e).2), owns_cellsB ho hg (fun r e => (hr r e).2)⟩, block_kept hr0 hg (fun r e => (hr r e).2), Nat.le_trans hz hg.size, hB.grown hg hB.size (fun k e => by have := (hr k e).1; omega)⟩
  case hAx =>
    rintro x a' s A B row ⟨Bx, hle, hh, he⟩ hg hr
    exact ⟨Bx, hle, block_kept hh hg (fun r e => (hr r e).2), he⟩
  case assign =>
    rintro l pre x W K ⟨⟨a', c', hh, ho⟩, hr0, hz, hB⟩ hK
    simp only [encR]
    gi_wp2
    refine hK _ _ ((KeepsOthers.alloc _ _).from _) ⟨(Below.refl _ _).alloc (by omega) _, fun v hv => keep_cell ((Below.refl _ _).alloc (Nat.le_refl _) _) hv⟩ ⟨⟨a', c', (heap_old' (by omega)).trans hh, ho.alloc _⟩, (heap_old' (by omega)).trans hr0, by simp; omega, hB.alloc (by omega) _⟩ ⟨W.heap.size, hz, heap_new' rfl, rfl⟩
  case body =>
    rintro l pre x a' W hl ⟨r, hr⟩ ⟨⟨a1, c1, hh, ho⟩, hr0, hz, hB⟩ ⟨Bx, hBx, hX, rfl⟩ hlt
    obtain ⟨x0, x1, x2⟩ := row3 hh
    have f1 := Joins.unfrozen_of_block hh 1
    have f2 := Joins.unfrozen_of_block hh 2
    obtain ⟨y0, y1, y2, y3, y4, y5, y6⟩ := row7 (show W.heap[Bx]? = some (.cells #[.int .i64 x.2.kd, .int .i64 x.2.tx, .int .i64 x.2.ky, .bool x.2.hd, .int .i64 x.2.ol, .bool x.2.hs, .int .i64 x.2.nw] 38 (0, 0)) from hX)
    have ne1 : ¬ Bx = w.heap.size + 1 := by omega
    have ne2 : ¬ w.heap.size + 1 = Bx := by omega
    have hp : pre.length ≤ 1048576 := by omega
    have hx1 : w.heap.size + 1 < W.heap.size := by omega
    have hx2 : Bx < W.heap.size := lt_of_cell y0
    have hhS := Joins.block_setCell (i := 1) hh (.int .i64 x.1)
    simp only [List.setIfInBounds_toArray, List.set_cons_zero, List.set_cons_succ] at hhS
    have hoS : (W.setCell ⟨w.heap.size + 1, 1, none⟩ (.int .i64 x.1)).ownsRow (w.heap.size + 3) 38 7 (.slice a1 pre.length c1) pre.length (rc7 (pre.map (·.2))) := ownsRow_setCell_below ho (by simp) _
    have hzS : (W.setCell ⟨w.heap.size + 1, 1, none⟩ (.int .i64 x.1)).heap.size = W.heap.size := by simp
    have l13 : w.heap.size + 1 < w.heap.size + 3 := by omega
    have l0S : w.heap.size + 1 < (W.setCell ⟨w.heap.size + 1, 1, none⟩ (.int .i64 x.1)).heap.size := by omega
    generalize hpl : pre.length = p at *
    clear hl hr r hX
    gi_wp2_with (gi_at_builtin; go_must (refine wpListIn_app7 (.tmp 17) (.tmp 19) (w.heap.size + 3) (.slice a1 p c1) p (pre.map (·.2)) x.2 hp ?_ ?_ ?_ ?_ ?_ ?_ ?_; exact rfl; exact rfl; exact rfl; (refine ⟨_, _, 38, rfl, ?_⟩; refine heap_new' ?_; (focus (first | rfl | (simp; done)))); exact hoS.alloc _; (focus (simp; omega)); intro g3 c3 w3 own3 b3 k3; have hh3 := (b3.block (w.heap.size + 1) l13).trans ((heap_old' l0S).trans hhS); obtain ⟨z0, z1, z2⟩ := row3 hh3; have g2 := Joins.unfrozen_of_block hh3 2))
    have hz3 := b3.size
    simp at hz3
    have kA : KeepsOthers W w3 := ((KeepsOthers.setCell W ⟨w.heap.size + 1, 1, none⟩ (.int .i64 x.1)).trans (KeepsOthers.alloc _ _)).trans k3
    have bA : Below w.heap.size W w3 := (((Below.refl w.heap.size W).setCell (p := ⟨w.heap.size + 1, 1, none⟩) (by simp) _).alloc (by simp; omega) _).trans (b3.mono (by omega))
    have hhF := Joins.block_setCell (i := 2) hh3 (.slice (some ⟨g3, 0, none⟩) (p + 1) c3)
    simp only [List.setIfInBounds_toArray, List.set_cons_zero, List.set_cons_succ] at hhF
    refine ⟨(kA.trans (KeepsOthers.setCell _ _ _)).from _, ⟨bA.setCell (p := ⟨w.heap.size + 1, 2, none⟩) (by simp) _, fun v hv => ?_⟩, ⟨⟨some ⟨g3, 0, none⟩, c3, ?_, ?_⟩, ?_, by simp; omega, (hB.trans bA).setCell (p := ⟨w.heap.size + 1, 2, none⟩) (by simp) _⟩⟩
    · have lv : w.heap.size + 2 < W.heap.size := by omega
      rw [World.cell?_setCell_other _ _ _ _ (by simp), b3.cell (p := ⟨w.heap.size + 2, 0, none⟩) (by simp)]
      exact keep_cell ((Below.refl _ _).alloc (Nat.le_refl _) _) (by rw [World.cell?_setCell_other _ _ _ _ (by simp)]; exact hv)
    · rw [Ch.lastEnd_snoc]
      simpa [hpl] using hhF
    · have := ownsRow_setCell_below (a := ⟨w.heap.size + 1, 2, none⟩) own3 (by simp) (.slice (some ⟨g3, 0, none⟩) (p + 1) c3)
      simpa [hpl] using this
    · have bX : Below (w.heap.size + 1) W w3 := (((Below.refl (w.heap.size + 1) W).setCell (p := ⟨w.heap.size + 1, 1, none⟩) (Nat.le_refl _) _).alloc (by simp; omega) _).trans (b3.mono (by omega))
      exact ((bX.setCell (p := ⟨w.heap.size + 1, 2, none⟩) (Nat.le_refl _) _).block w.heap.size (by omega)).trans hr0
  case done =>
    rintro D ys W hD rfl ⟨⟨a1, c1, hh, ho⟩, hr0, hz, hB⟩ hK
    rw [Ch.ends_len, Ch.lastEnd_ends] at hh
    rw [Ch.ends_len, Ch.ends_snd] at ho
    obtain ⟨x0, x1, x2⟩ := row3 hh
    obtain ⟨y0, y1, y2⟩ := row3 hr0
    have f0 := Joins.unfrozen_of_block hr0 0
    have f1 := Joins.unfrozen_of_block hr0 1
    have f2 := Joins.unfrozen_of_block hr0 2
    have hu : Hid (Ch.lenOf (Ch.reads zs) = Ch.used zs) := rfl
    generalize hrd : (Ch.reads zs).length = p at *
    have hF := Joins.block_setCell (i := 2) (Joins.block_setCell (i := 1) (Joins.block_setCell (i := 0) hr0 (.int .i64 0)) (.int .i64 (Ch.lenOf (Ch.reads zs)))) (.slice a1 p c1)
    simp only [List.setIfInBounds_toArray, List.set_cons_zero, List.set_cons_succ] at hF
    have hKF := (KeepsOthers.setCell _ ⟨w.heap.size, 2, none⟩ (.slice a1 p c1)).same D _ ((KeepsOthers.setCell _ ⟨w.heap.size, 1, none⟩ (.int .i64 (Ch.lenOf (Ch.reads zs)))).same D _ ((KeepsOthers.setCell W ⟨w.heap.size, 0, none⟩ (.int .i64 0)).same D _ hK rfl) rfl) rfl
    have hoF := ownsRow_setCell_below (a := ⟨w.heap.size, 2, none⟩) (ownsRow_setCell_below (a := ⟨w.heap.size, 1, none⟩) (ownsRow_setCell_below (a := ⟨w.heap.size, 0, none⟩) ho (by simp) (.int .i64 0)) (by simp) (.int .i64 (Ch.lenOf (Ch.reads zs)))) (by simp) (.slice a1 p c1)
    have hBF := ((hB.setCell (p := ⟨w.heap.size, 0, none⟩) (Nat.le_refl _) (.int .i64 0)).setCell (p := ⟨w.heap.size, 1, none⟩) (Nat.le_refl _) (.int .i64 (Ch.lenOf (Ch.reads zs)))).setCell (p := ⟨w.heap.size, 2, none⟩) (Nat.le_refl _) (.slice a1 p c1)
    gi_wp2
    generalize (((W.setCell ⟨w.heap.size, 0, none⟩ (.int .i64 0)).setCell ⟨w.heap.size, 1, none⟩ (.int .i64 (Ch.lenOf (Ch.reads zs)))).setCell ⟨w.heap.size, 2, none⟩ (.slice a1 p c1)) = Wf at *
    have hneD : w.heap.size ≠ D := by omega
    obtain ⟨q0, q1, q2⟩ := row3 ((World.putObj_heap_other hneD).trans hF : (Wf.putObj D (.deferred none)).heap[w.heap.size]? = _)
    refine ⟨by simp, .inl ⟨_, _, rfl, run_takeDeferred hKF, ?_⟩⟩
    refine ⟨.agg #[.int .i64 0, .int .i64 (Ch.lenOf (Ch.reads zs)), .slice a1 p c1], ?_, a1, c1, ?_, ?_, hBF.trans (belowK_b (w := w) (Nat.le_refl _) Wf D _ _ (by omega) hKF rfl rfl)⟩
    · simp [results, Try.results14, go_sem, q0, q1, q2]
    · rw [hu.out, hrd]
    · rw [hrd]
      exact owns_base (ownsRow_putObj hoF _ hKF rfl) (by omega)
  case stop =>
    rintro D c pre W _ _ h _
    exact h.elim
end Go.Proofs.Ytommekhmdmnjlaa
