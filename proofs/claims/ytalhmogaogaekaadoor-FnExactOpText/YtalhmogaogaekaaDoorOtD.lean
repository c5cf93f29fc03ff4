/- OpText of the model. -/
import Derived.Test.YtalhmogaogaekaaDoorOtC
import Derived.Lib.SmallJoins
namespace Go.Proofs.YtalhmogaogaekaaDoor
open Go.RowKit

theorem block_belowW {w w' : World} (hb : Below w.heap.size w w') {b : Nat} {o : Obj} (h : w.heap[b]? = some o) : w'.heap[b]? = some o :=
  (hb.block b (Array.getElem?_eq_some_iff.1 h).1).trans h
theorem row4 {W : World} {g : Nat} {t : TypeId} {u0 u1 u2 u3 : Value} (h : W.heap[g]? = some (.cells #[u0, u1, u2, u3] t (0, 0))) :
    W.cell? ⟨g, 0, none⟩ = some u0 ∧ W.cell? ⟨g, 1, none⟩ = some u1 ∧ W.cell? ⟨g, 2, none⟩ = some u2 ∧ W.cell? ⟨g, 3, none⟩ = some u3 := by
  simp [World.cell?, h]
/-- A box with a code and a text. -/
def BoxT (W : World) (g : Nat) : Prop := ∃ u0 u1, W.heap[g]? = some (.cells #[u0, u1] 25 (0, 0))
theorem BoxT.below {W V : World} {g : Nat} (h : BoxT W g) (hb : Below W.heap.size W V) : BoxT V g := by
  obtain ⟨u0, u1, h⟩ := h
  exact ⟨u0, u1, block_belowW hb h⟩
theorem box_set2 {W : World} {g : Nat} {t : TypeId} {u0 u1 : Value} (h : W.heap[g]? = some (.cells #[u0, u1] t (0, 0))) (v0 v1 : Value) : ((W.setCell ⟨g, 0, none⟩ v0).setCell ⟨g, 1, none⟩ v1).heap[g]? = some (.cells #[v0, v1] t (0, 0)) := by
  have h1 := Joins.block_setCell (i := 0) h v0
  have h2 := Joins.block_setCell (i := 1) h1 v1
  simpa using h2
theorem names_at (K : Nat) (h1 : 1 ≤ K) (h2 : K ≤ 10) : [⟨#[]⟩, Ch.opName 1, Ch.opName 2, Ch.opName 3, Ch.opName 4, Ch.opName 5, Ch.opName 6, Ch.opName 7, Ch.opName 8, Ch.opName 9, Ch.opName 10].getD K ⟨#[]⟩ = Ch.opName (K : Int) := by
  have : K = 1 ∨ K = 2 ∨ K = 3 ∨ K = 4 ∨ K = 5 ∨ K = 6 ∨ K = 7 ∨ K = 8 ∨ K = 9 ∨ K = 10 := by omega
  rcases this with rfl | rfl | rfl | rfl | rfl | rfl | rfl | rfl | rfl | rfl <;> rfl
theorem Ch.opName_size (k : Int) : (Ch.opName k).size ≤ 20 := by
  unfold Ch.opName
  repeat' split
  all_goals decide
theorem Ch.opFields_le (k : Int) (x y z : Nat) (hx : x ≤ 99) (hy : y ≤ 99) (hz : z ≤ 9999) : ∀ i, (Ch.opFields k x y z).getD i 0 ≤ 9999 := by
  intro i
  unfold Ch.opFields
  repeat' split
  all_goals
    rcases i with _ | _ | i <;> simp [List.getD] <;> omega

set_option linter.unusedSimpArgs false in
set_option maxRecDepth 20000 in
set_option maxHeartbeats 4000000 in
theorem specOpText_ok (K x y z : Nat) (w : World) (hK1 : 1 ≤ K) (hK2 : K ≤ 10) (hx : x ≤ 99) (hy : y ≤ 99) (hz : z ≤ 9999) (hF : Ch.opFault K x y z = 0) :
    Calls Tryd.prog 5 #[.agg #[.int .i64 K, .int .i64 x, .int .i64 y, .int .i64 z]] w fun e w' => e = .returned (.agg #[.int .i64 0, .string (Ch.opText K x y z)]) ∧ Below w.heap.size w w' := by
  have hK11 : (K : Int) < 11 := by omega
  have OF := fun W => specOp_any K x y z W
  rw [hF] at OF
  have FL := fun W => fields_any K x y z W (by omega)
  have LN := fun a n cap W h (hn : n ≤ 2) => line_any (Ch.opName K) a n cap (Ch.opFields K x y z) W h hn (Ch.opFields_le K x y z hx hy hz) (Ch.opName_size K)
  have HT : Hid (Ch.opText K x y z = Ch.line (Ch.opName K) (Ch.opFields K x y z)) := rfl
  rw [HT.out]
  clear hF HT
  generalize Ch.opFields (K : Int) x y z = FS at *
  generalize hT : Ch.line (Ch.opName K) FS = TX at *
  clear hT
  have hbo : ((w.alloc (.cells #[.int .i64 K, .int .i64 x, .int .i64 y, .int .i64 z] 27)).alloc (.cells #[.int .i64 0, .string ⟨#[]⟩] 25)).heap[w.heap.size]? = some (.cells #[.int .i64 K, .int .i64 x, .int .i64 y, .int .i64 z] 27 (0, 0)) := (heap_old' (by simp)).trans (heap_alloc_new w _)
  have hbr : ((w.alloc (.cells #[.int .i64 K, .int .i64 x, .int .i64 y, .int .i64 z] 27)).alloc (.cells #[.int .i64 0, .string ⟨#[]⟩] 25)).heap[w.heap.size + 1]? = some (.cells #[.int .i64 0, .string ⟨#[]⟩] 25 (0, 0)) := by
    have := heap_alloc_new (w.alloc (.cells #[.int .i64 K, .int .i64 x, .int .i64 y, .int .i64 z] 27)) (.cells #[.int .i64 0, .string ⟨#[]⟩] 25)
    rw [show (w.alloc (.cells #[.int .i64 K, .int .i64 x, .int .i64 y, .int .i64 z] 27)).heap.size = w.heap.size + 1 by simp] at this
    exact this
  have b0 : Below w.heap.size w ((w.alloc (.cells #[.int .i64 K, .int .i64 x, .int .i64 y, .int .i64 z] 27)).alloc (.cells #[.int .i64 0, .string ⟨#[]⟩] 25)) := ((Below.refl _ _).alloc (Nat.le_refl _) _).alloc (by simp) _
  go_enter Tryd.func5, Tryd.ntmps5
  go_wp2_with fail
  refine (OF _).mono ?_
  rintro e w1 ⟨rfl, b1⟩
  have hO := block_belowW b1 hbo
  have hR := block_belowW b1 hbr
  have b1' := b0.trans (b1.mono b0.size)
  obtain ⟨x0, x1, x2, x3⟩ := row4 hO
  have lo := lt_of_cell x0
  clear hbo hbr b0 b1 OF
  go_wp2_with fail
  refine wp_region_noPanic ?_
  refine wp_region_held_drew (S := fun W' => W'.cell? ⟨w.heap.size, 0, none⟩ = some (.int .i64 K) ∧ W'.cell? ⟨w.heap.size, 1, none⟩ = some (.int .i64 x) ∧ W'.cell? ⟨w.heap.size, 2, none⟩ = some (.int .i64 y) ∧ W'.cell? ⟨w.heap.size, 3, none⟩ = some (.int .i64 z) ∧ w.heap.size < W'.heap.size ∧ BoxT W' (w.heap.size + 1) ∧ Below w.heap.size w W') (by kernel_rfl) (⟨x0, x1, x2, x3, lo, ⟨_, _, hR⟩, b1'.trans ⟨rfl, rfl, rfl, Nat.le_refl _, fun _ _ => rfl⟩⟩) (fun hH => ?_)
  refine hTake (i := 1) (v := ?_) rfl (by kernel_rfl) (by kernel_rfl) (by kernel_rfl) (by rfl) ?_ hH ?_
  rotate_left
  · intro W hW; (try dsimp only at hW); go_simp <;> with_reducible rfl
  simp only [Act.put, List.setIfInBounds_toArray, List.set_cons_zero, List.set_cons_succ]
  refine hTake (i := 2) (v := ?_) rfl (by kernel_rfl) (by kernel_rfl) (by kernel_rfl) (by rfl) ?_ hH ?_
  rotate_left
  · intro W hW; (try dsimp only at hW); go_simp <;> with_reducible rfl
  simp only [Act.put, List.setIfInBounds_toArray, List.set_cons_zero, List.set_cons_succ]
  refine hTake (i := 5) (v := ?_) rfl (by kernel_rfl) (by kernel_rfl) (by kernel_rfl) (by rfl) ?_ hH ?_
  rotate_left
  · intro W hW; (try dsimp only at hW); go_simp <;> with_reducible rfl
  simp only [Act.put, List.setIfInBounds_toArray, List.set_cons_zero, List.set_cons_succ]
  refine wpAnyH_ready (rs := [0]) (by kernel_rfl) (by simp) ?_
  refine AllReadyH.cons rfl (fun K hK => ?_) AllReadyH.nil
  go_simp
  refine (names_any _).mono ?_
  rintro e w3 ⟨rfl, hN, b3⟩
  go_wp2_with fail
  refine hK.out _ _ ?_ (fun hH => ?_)
  · exact ⟨keep_cell b3 hH.1, keep_cell b3 hH.2.1, keep_cell b3 hH.2.2.1, keep_cell b3 hH.2.2.2.1, Nat.lt_of_lt_of_le hH.2.2.2.2.1 b3.size, hH.2.2.2.2.2.1.below b3, hH.2.2.2.2.2.2.trans (b3.mono hH.2.2.2.2.2.2.size)⟩
  clear hK K
  obtain ⟨g, off, hga, hnm⟩ := hN.str (k := K) (by omega)
  rw [names_at K hK1 hK2] at hnm
  simp only [Option.some.injEq, Addr.mk.injEq, and_true] at hga
  obtain ⟨rfl, rfl⟩ := hga
  rw [Nat.zero_add] at hnm
  have hnm : w3.cell? ⟨w1.heap.size, K, none⟩ = some (.string (Ch.opName (K : Int))) := hnm
  have lnm := lt_of_cell hnm
  generalize Ch.opName (K : Int) = NM at *
  refine hTake (i := 3) (v := ?_) rfl (by kernel_rfl) (by kernel_rfl) (by kernel_rfl) (by rfl) ?_ hH ?_
  rotate_left
  · intro W hW; (try dsimp only at hW); go_simp <;> with_reducible rfl
  simp only [Act.put, List.setIfInBounds_toArray, List.set_cons_zero, List.set_cons_succ]
  refine wpAnyH_ready (rs := [4, 6]) (by kernel_rfl) (by simp) ?_
  refine AllReadyH.cons rfl (fun K' hK' => ?_) (AllReadyH.cons rfl (fun K' hK' => ?_) AllReadyH.nil)
  focus
    go_simp
    refine hK'.out _ _ ?_ (fun hH => ?_)
    · exact hH
    clear hK' K'
    refine wpAnyH_ready (rs := [6]) (by kernel_rfl) (by simp) ?_
    refine AllReadyH.cons rfl (fun K hK => ?_) AllReadyH.nil
    go_simp
    refine (FL _).mono ?_
    rintro e w4 ⟨a4, n4, c4, rfl, hn4, hc4, b4⟩
    go_wp2_with fail
    refine hK.out _ _ ?_ (fun hH => ?_)
    · exact ⟨keep_cell b4 hH.1, keep_cell b4 hH.2.1, keep_cell b4 hH.2.2.1, keep_cell b4 hH.2.2.2.1, Nat.lt_of_lt_of_le hH.2.2.2.2.1 b4.size, hH.2.2.2.2.2.1.below b4, hH.2.2.2.2.2.2.trans (b4.mono hH.2.2.2.2.2.2.size)⟩
    clear hK K
    refine wpAnyH_ready (rs := [7]) (by kernel_rfl) (by simp) ?_
    refine AllReadyH.cons rfl (fun K hK => ?_) AllReadyH.nil
    go_simp
    refine (LN a4 n4 c4 _ hc4 hn4).mono ?_
    rintro e w5 ⟨rfl, b5⟩
    go_wp2_with fail
    refine hK.out _ _ ?_ (fun hH => ?_)
    · exact ⟨keep_cell b5 hH.1, keep_cell b5 hH.2.1, keep_cell b5 hH.2.2.1, keep_cell b5 hH.2.2.2.1, Nat.lt_of_lt_of_le hH.2.2.2.2.1 b5.size, hH.2.2.2.2.2.1.below b5, hH.2.2.2.2.2.2.trans (b5.mono hH.2.2.2.2.2.2.size)⟩
    clear hK K
    refine hTake (i := 8) (v := ?_) rfl (by kernel_rfl) (by kernel_rfl) (by kernel_rfl) (by rfl) ?_ hH ?_
    rotate_left
    · intro W hW; (try dsimp only at hW); go_simp <;> with_reducible rfl
    simp only [Act.put, List.setIfInBounds_toArray, List.set_cons_zero, List.set_cons_succ]
    obtain ⟨u0, u1, hR5⟩ := hH.2.2.2.2.2.1
    obtain ⟨r0, r1, f0, f1⟩ := row2 hR5
    have lr := lt_of_cell r0
    refine wpAnyH_ready (rs := [9]) (by kernel_rfl) (by simp) ?_
    refine AllReadyH.cons rfl (fun K hK => ?_) AllReadyH.nil
    go_simp
    refine hK.out _ _ ?_ (fun hH => ?_)
    · exact ⟨by simpa [World.cell?, Below.heap_setCell] using hH.1, by simpa [World.cell?, Below.heap_setCell] using hH.2.1, by simpa [World.cell?, Below.heap_setCell] using hH.2.2.1, by simpa [World.cell?, Below.heap_setCell] using hH.2.2.2.1, by simpa using hH.2.2.2.2.1, ⟨_, _, box_set2 hR5 _ _⟩, (hH.2.2.2.2.2.2.setCell (p := ⟨w.heap.size + 1, 0, none⟩) (by show w.heap.size ≤ w.heap.size + 1; omega) _).setCell (p := ⟨w.heap.size + 1, 1, none⟩) (by show w.heap.size ≤ w.heap.size + 1; omega) _⟩
    clear hK K
    have hR9 := box_set2 hR5 (.int .i64 0) (.string TX)
    obtain ⟨t0, t1, _, _⟩ := row2 hR9
    refine wpAnyH_done (by kernel_rfl) ?_ _
    refine NoPanic.normal ?_
    go_wp2
    exact bodyPost_ret (v := .agg #[.int .i64 0, .string TX]) (by simp [results, Tryd.results5, go_sem, t0, t1]) rfl ⟨rfl, hH.2.2.2.2.2.2⟩
  focus
    go_simp
    refine (FL _).mono ?_
    rintro e w4 ⟨a4, n4, c4, rfl, hn4, hc4, b4⟩
    go_wp2_with fail
    have hnm := keep_cell b4 hnm
    have lnm := lt_of_cell hnm
    refine hK'.out _ _ ?_ (fun hH => ?_)
    · exact ⟨keep_cell b4 hH.1, keep_cell b4 hH.2.1, keep_cell b4 hH.2.2.1, keep_cell b4 hH.2.2.2.1, Nat.lt_of_lt_of_le hH.2.2.2.2.1 b4.size, hH.2.2.2.2.2.1.below b4, hH.2.2.2.2.2.2.trans (b4.mono hH.2.2.2.2.2.2.size)⟩
    clear hK' K'
    refine wpAnyH_ready (rs := [4]) (by kernel_rfl) (by simp) ?_
    refine AllReadyH.cons rfl (fun K hK => ?_) AllReadyH.nil
    go_simp
    refine hK.out _ _ ?_ (fun hH => ?_)
    · exact hH
    clear hK K
    refine wpAnyH_ready (rs := [7]) (by kernel_rfl) (by simp) ?_
    refine AllReadyH.cons rfl (fun K hK => ?_) AllReadyH.nil
    go_simp
    refine (LN a4 n4 c4 _ hc4 hn4).mono ?_
    rintro e w5 ⟨rfl, b5⟩
    go_wp2_with fail
    refine hK.out _ _ ?_ (fun hH => ?_)
    · exact ⟨keep_cell b5 hH.1, keep_cell b5 hH.2.1, keep_cell b5 hH.2.2.1, keep_cell b5 hH.2.2.2.1, Nat.lt_of_lt_of_le hH.2.2.2.2.1 b5.size, hH.2.2.2.2.2.1.below b5, hH.2.2.2.2.2.2.trans (b5.mono hH.2.2.2.2.2.2.size)⟩
    clear hK K
    refine hTake (i := 8) (v := ?_) rfl (by kernel_rfl) (by kernel_rfl) (by kernel_rfl) (by rfl) ?_ hH ?_
    rotate_left
    · intro W hW; (try dsimp only at hW); go_simp <;> with_reducible rfl
    simp only [Act.put, List.setIfInBounds_toArray, List.set_cons_zero, List.set_cons_succ]
    obtain ⟨u0, u1, hR5⟩ := hH.2.2.2.2.2.1
    obtain ⟨r0, r1, f0, f1⟩ := row2 hR5
    have lr := lt_of_cell r0
    refine wpAnyH_ready (rs := [9]) (by kernel_rfl) (by simp) ?_
    refine AllReadyH.cons rfl (fun K hK => ?_) AllReadyH.nil
    go_simp
    refine hK.out _ _ ?_ (fun hH => ?_)
    · exact ⟨by simpa [World.cell?, Below.heap_setCell] using hH.1, by simpa [World.cell?, Below.heap_setCell] using hH.2.1, by simpa [World.cell?, Below.heap_setCell] using hH.2.2.1, by simpa [World.cell?, Below.heap_setCell] using hH.2.2.2.1, by simpa using hH.2.2.2.2.1, ⟨_, _, box_set2 hR5 _ _⟩, (hH.2.2.2.2.2.2.setCell (p := ⟨w.heap.size + 1, 0, none⟩) (by show w.heap.size ≤ w.heap.size + 1; omega) _).setCell (p := ⟨w.heap.size + 1, 1, none⟩) (by show w.heap.size ≤ w.heap.size + 1; omega) _⟩
    clear hK K
    have hR9 := box_set2 hR5 (.int .i64 0) (.string TX)
    obtain ⟨t0, t1, _, _⟩ := row2 hR9
    refine wpAnyH_done (by kernel_rfl) ?_ _
    refine NoPanic.normal ?_
    go_wp2
    exact bodyPost_ret (v := .agg #[.int .i64 0, .string TX]) (by simp [results, Tryd.results5, go_sem, t0, t1]) rfl ⟨rfl, hH.2.2.2.2.2.2⟩
end Go.Proofs.YtalhmogaogaekaaDoor
