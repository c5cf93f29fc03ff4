/- The law FnExactOpText. -/
import Derived.Test.YtalhmogaogaekaaDoorOtI
namespace Go.Proofs.YtalhmogaogaekaaDoor
open Go.RowKit Go.Shelf

set_option maxHeartbeats 1000000 in
theorem eqTextT_same (c : Int) (s : ByteArray) (w : World) :
    Calls Tryd.prog 8 #[.agg #[.int .i64 c, .string s], .agg #[.int .i64 c, .string s]] w fun e w' => e = .returned (.bool true) ∧ Below w.heap.size w w' := by
  have hcc : (c != c) = false := by simp
  go_enter Tryd.func8, Tryd.ntmps8
  go_wp2_with fail
  go_ret
  exact ⟨rfl, ((Below.refl _ _).alloc (Nat.le_refl _) _).alloc (by simp) _⟩

theorem text_both (k a b v : Int) : ∃ (c : Int) (s : ByteArray),
    (∀ W, Calls Tryd.prog 5 #[.agg #[.int .i64 k, .int .i64 a, .int .i64 b, .int .i64 v]] W fun e w' => e = .returned (.agg #[.int .i64 c, .string s]) ∧ Below W.heap.size W w') ∧
    (∀ W, Tab W → Calls Tryd.prog 7 #[.agg #[.int .i64 k, .int .i64 a, .int .i64 b, .int .i64 v]] W fun e w' => e = .returned (.agg #[.int .i64 c, .string s]) ∧ Below W.heap.size W w') := by
  by_cases h0 : Ch.opFault k a b v = 0
  · obtain ⟨x, y, z, rfl, rfl, rfl, hx, hy, hz, hk⟩ := Ch.op_ok h0
    obtain ⟨K, rfl⟩ : ∃ K : Nat, k = K := ⟨k.toNat, by omega⟩
    exact ⟨0, _, fun W => specOpText_ok K x y z W (by omega) (by omega) hx hy hz h0, fun W hT => implOpText_ok K x y z W (by omega) (by omega) hx hy hz h0 hT⟩
  · have hc : (Ch.opFault k a b v != 0) = true := by simpa using h0
    exact ⟨_, _, fun W => specOpText_bad k a b v _ W rfl hc, fun W _ => implOpText_bad k a b v _ W rfl hc⟩

set_option maxHeartbeats 1000000 in
theorem lawText_any (k a b v : Int) (w : World) (ht : Tab w) :
    Calls Tryd.prog 3 #[.agg #[.int .i64 k, .int .i64 a, .int .i64 b, .int .i64 v]] w fun e w' => e = .returned (.bool true) ∧ Below w.heap.size w w' := by
  obtain ⟨c, s, hs, hi⟩ := text_both k a b v
  have b0 : Below w.heap.size w (w.alloc (.cells #[.int .i64 k, .int .i64 a, .int .i64 b, .int .i64 v] 23)) := (Below.refl _ _).alloc (Nat.le_refl _) _
  have hb0 := heap_alloc_new w (.cells #[.int .i64 k, .int .i64 a, .int .i64 b, .int .i64 v] 23)
  go_enter Tryd.func3, Tryd.ntmps3
  go_wp2_with fail
  refine (toOp_any _ _ _ _ _).mono ?_
  rintro e w1 ⟨rfl, b1⟩
  have b1' := b0.trans (b1.mono b0.size)
  have hb1 := block_belowW b1 hb0
  go_wp2_with fail
  refine (hs _).mono ?_
  rintro e w2 ⟨rfl, b2⟩
  have b2' := b1'.trans (b2.mono b1'.size)
  have hb2 := block_belowW b2 hb1
  have kb : Below w2.heap.size w2 (w2.alloc (.cells #[.int .i64 c, .string s] 25)) := (Below.refl _ _).alloc (Nat.le_refl _) _
  have hb3 := block_belowW kb hb2
  obtain ⟨x0, x1, x2, x3⟩ := row4 hb3
  have hr2 := heap_alloc_new w2 (.cells #[.int .i64 c, .string s] 25)
  have b3' := b2'.trans (kb.mono b2'.size)
  have lo := lt_of_cell x0
  clear b1 b0 hb0 hb1
  go_wp2_with fail
  refine (toOp_any _ _ _ _ _).mono ?_
  rintro e w4 ⟨rfl, b4⟩
  have b4' := b3'.trans (b4.mono b3'.size)
  have hr4 := block_belowW b4 hr2
  go_wp2_with fail
  refine (hi _ (ht.below b4')).mono ?_
  rintro e w5 ⟨rfl, b5⟩
  have b5' := b4'.trans (b5.mono b4'.size)
  have hr5 := block_belowW b5 hr4
  have kc : Below w5.heap.size w5 (w5.alloc (.cells #[.int .i64 c, .string s] 25)) := (Below.refl _ _).alloc (Nat.le_refl _) _
  have hr6 := block_belowW kc hr5
  obtain ⟨y0, y1, _, _⟩ := row2 hr6
  have ly := lt_of_cell y0
  have b6' := b5'.trans (kc.mono b5'.size)
  go_wp2_with fail
  refine (eqTextT_same c s _).mono ?_
  rintro e w7 ⟨rfl, b7⟩
  go_wp2
  go_ret
  exact ⟨rfl, b6'.trans (b7.mono b6'.size)⟩
end Go.Proofs.YtalhmogaogaekaaDoor
