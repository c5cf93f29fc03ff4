/- OpText of the model where it has a code; the forms of the program. -/
import Derived.Test.YtalhmogaogaekaaDoorOtD
namespace Go.Proofs.YtalhmogaogaekaaDoor
open Go.RowKit

set_option maxHeartbeats 1000000 in
theorem specOpText_bad (k a b v c : Int) (w : World) (hF : Ch.opFault k a b v = c) (hc : (c != 0) = true) :
    Calls Tryd.prog 5 #[.agg #[.int .i64 k, .int .i64 a, .int .i64 b, .int .i64 v]] w fun e w' => e = .returned (.agg #[.int .i64 c, .string ⟨#[]⟩]) ∧ Below w.heap.size w w' := by
  have OF := fun W => specOp_any k a b v W
  rw [hF] at OF
  clear hF
  have b0 : Below w.heap.size w ((w.alloc (.cells #[.int .i64 k, .int .i64 a, .int .i64 b, .int .i64 v] 27)).alloc (.cells #[.int .i64 0, .string ⟨#[]⟩] 25)) := ((Below.refl _ _).alloc (Nat.le_refl _) _).alloc (by simp) _
  have hbr : ((w.alloc (.cells #[.int .i64 k, .int .i64 a, .int .i64 b, .int .i64 v] 27)).alloc (.cells #[.int .i64 0, .string ⟨#[]⟩] 25)).heap[w.heap.size + 1]? = some (.cells #[.int .i64 0, .string ⟨#[]⟩] 25 (0, 0)) := by
    have := heap_alloc_new (w.alloc (.cells #[.int .i64 k, .int .i64 a, .int .i64 b, .int .i64 v] 27)) (.cells #[.int .i64 0, .string ⟨#[]⟩] 25)
    rw [show (w.alloc (.cells #[.int .i64 k, .int .i64 a, .int .i64 b, .int .i64 v] 27)).heap.size = w.heap.size + 1 by simp] at this
    exact this
  go_enter Tryd.func5, Tryd.ntmps5
  go_wp2_with fail
  refine (OF _).mono ?_
  rintro e w1 ⟨rfl, b1⟩
  have hR := block_belowW b1 hbr
  have b1' := b0.trans (b1.mono b0.size)
  obtain ⟨r0, r1, f0, f1⟩ := row2 hR
  have lr := lt_of_cell r0
  have hR9 := box_set2 hR (.int .i64 c) (.string ⟨#[]⟩)
  obtain ⟨t0, t1, _, _⟩ := row2 hR9
  clear hbr b0 b1 OF
  go_wp2
  exact bodyPost_ret (v := .agg #[.int .i64 c, .string ⟨#[]⟩]) (by simp [results, Tryd.results5, go_sem, t0, t1]) rfl ⟨rfl, (b1'.setCell (p := ⟨w.heap.size + 1, 0, none⟩) (by show w.heap.size ≤ w.heap.size + 1; omega) _).setCell (p := ⟨w.heap.size + 1, 1, none⟩) (by show w.heap.size ≤ w.heap.size + 1; omega) _⟩

set_option maxHeartbeats 1000000 in
theorem implOpText_bad (k a b v c : Int) (w : World) (hF : Ch.opFault k a b v = c) (hc : (c != 0) = true) :
    Calls Tryd.prog 7 #[.agg #[.int .i64 k, .int .i64 a, .int .i64 b, .int .i64 v]] w fun e w' => e = .returned (.agg #[.int .i64 c, .string ⟨#[]⟩]) ∧ Below w.heap.size w w' := by
  have OF := fun W => implOp_any k a b v W
  rw [hF] at OF
  clear hF
  have b0 : Below w.heap.size w ((w.alloc (.cells #[.int .i64 k, .int .i64 a, .int .i64 b, .int .i64 v] 27)).alloc (.cells #[.int .i64 0, .string ⟨#[]⟩] 25)) := ((Below.refl _ _).alloc (Nat.le_refl _) _).alloc (by simp) _
  have hbr : ((w.alloc (.cells #[.int .i64 k, .int .i64 a, .int .i64 b, .int .i64 v] 27)).alloc (.cells #[.int .i64 0, .string ⟨#[]⟩] 25)).heap[w.heap.size + 1]? = some (.cells #[.int .i64 0, .string ⟨#[]⟩] 25 (0, 0)) := by
    have := heap_alloc_new (w.alloc (.cells #[.int .i64 k, .int .i64 a, .int .i64 b, .int .i64 v] 27)) (.cells #[.int .i64 0, .string ⟨#[]⟩] 25)
    rw [show (w.alloc (.cells #[.int .i64 k, .int .i64 a, .int .i64 b, .int .i64 v] 27)).heap.size = w.heap.size + 1 by simp] at this
    exact this
  go_enter Tryd.func7, Tryd.ntmps7
  go_wp2_with fail
  refine (OF _).mono ?_
  rintro e w1 ⟨rfl, b1⟩
  have hR := block_belowW b1 hbr
  have b1' := b0.trans (b1.mono b0.size)
  obtain ⟨r0, r1, f0, f1⟩ := row2 hR
  have lr := lt_of_cell r0
  have hR9 := box_set2 hR (.int .i64 c) (.string ⟨#[]⟩)
  obtain ⟨t0, t1, _, _⟩ := row2 hR9
  clear hbr b0 b1 OF
  go_wp2
  exact bodyPost_ret (v := .agg #[.int .i64 c, .string ⟨#[]⟩]) (by simp [results, Tryd.results7, go_sem, t0, t1]) rfl ⟨rfl, (b1'.setCell (p := ⟨w.heap.size + 1, 0, none⟩) (by show w.heap.size ≤ w.heap.size + 1; omega) _).setCell (p := ⟨w.heap.size + 1, 1, none⟩) (by show w.heap.size ≤ w.heap.size + 1; omega) _⟩
end Go.Proofs.YtalhmogaogaekaaDoor
