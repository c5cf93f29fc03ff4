
/- OpFault of the model. -/
import Derived.Test.YtalhmogaogaekaaDoorRowa
import Derived.Test.YtalhmogaogaekaaDoorOpM
namespace Go.Proofs.YtalhmogaogaekaaDoor
open Go.RowKit

theorem toOp_any (k a b v : Int) (w : World) :
    Calls Tryd.prog 6 #[.agg #[.int .i64 k, .int .i64 a, .int .i64 b, .int .i64 v]] w fun e w' => e = .returned (.agg #[.int .i64 k, .int .i64 a, .int .i64 b, .int .i64 v]) ∧ Below w.heap.size w w' := by
  go_enter Tryd.func6, Tryd.ntmps6
  go_wp2
  exact bodyPost_ret (v := .agg #[.int .i64 k, .int .i64 a, .int .i64 b, .int .i64 v]) (by simp [results, Tryd.results6, go_sem]) rfl
    ⟨rfl, (((Below.refl _ _).alloc (Nat.le_refl _) _).alloc (by simp) _).alloc (by simp; omega) _⟩

theorem Ch.op_none {k a b v : Int} (hk : Ch.inB k 1 10 = false) : Ch.opFault k a b v = 1 := by
  unfold Ch.opFault
  unfold Ch.inB at hk
  simp only [Bool.and_eq_false_iff, decide_eq_false_iff_not] at hk
  repeat rw [if_neg (by omega)]

set_option linter.unusedSimpArgs false in
set_option maxHeartbeats 1000000 in
theorem specOp_1_0 (a b v : Int) (ha : Ch.inB a 0 99 = false) (w : World) :
    Calls Tryd.prog 14 #[.agg #[.int .i64 1, .int .i64 a, .int .i64 b, .int .i64 v]] w fun e w' => e = .returned (.int .i64 3) ∧ Below w.heap.size w w' := by
  go_enter Tryd.func14, Tryd.ntmps14
  go_wp2_with (first | (go_at_call 30; refine (in_any _ _ _ _).mono ?_; rintro e w' ⟨rfl, rfl⟩) | (go_at_call 31; refine (key_any _ _).mono ?_; rintro e w' ⟨rfl, rfl⟩) | (go_at_call 32; refine (value_any _ _).mono ?_; rintro e w' ⟨rfl, rfl⟩))
  go_ret
  exact ⟨by simp, (Below.refl _ _).alloc (Nat.le_refl _) _⟩

set_option linter.unusedSimpArgs false in
set_option maxHeartbeats 1000000 in
theorem specOp_1_1 (a b v : Int) (ha : Ch.inB a 0 99 = true) (zb : (b != 0) = true) (w : World) :
    Calls Tryd.prog 14 #[.agg #[.int .i64 1, .int .i64 a, .int .i64 b, .int .i64 v]] w fun e w' => e = .returned (.int .i64 1) ∧ Below w.heap.size w w' := by
  go_enter Tryd.func14, Tryd.ntmps14
  go_wp2_with (first | (go_at_call 30; refine (in_any _ _ _ _).mono ?_; rintro e w' ⟨rfl, rfl⟩) | (go_at_call 31; refine (key_any _ _).mono ?_; rintro e w' ⟨rfl, rfl⟩) | (go_at_call 32; refine (value_any _ _).mono ?_; rintro e w' ⟨rfl, rfl⟩))
  go_ret
  exact ⟨by simp, (Below.refl _ _).alloc (Nat.le_refl _) _⟩

set_option linter.unusedSimpArgs false in
set_option maxHeartbeats 1000000 in
theorem specOp_1_2 (a v : Int) (ha : Ch.inB a 0 99 = true) (zv : (v != 0) = true) (w : World) :
    Calls Tryd.prog 14 #[.agg #[.int .i64 1, .int .i64 a, .int .i64 0, .int .i64 v]] w fun e w' => e = .returned (.int .i64 1) ∧ Below w.heap.size w w' := by
  go_enter Tryd.func14, Tryd.ntmps14
  go_wp2_with (first | (go_at_call 30; refine (in_any _ _ _ _).mono ?_; rintro e w' ⟨rfl, rfl⟩) | (go_at_call 31; refine (key_any _ _).mono ?_; rintro e w' ⟨rfl, rfl⟩) | (go_at_call 32; refine (value_any _ _).mono ?_; rintro e w' ⟨rfl, rfl⟩))
  go_ret
  exact ⟨by simp, (Below.refl _ _).alloc (Nat.le_refl _) _⟩

set_option linter.unusedSimpArgs false in
set_option maxHeartbeats 1000000 in
theorem specOp_1_3 (a : Int) (ha : Ch.inB a 0 99 = true) (w : World) :
    Calls Tryd.prog 14 #[.agg #[.int .i64 1, .int .i64 a, .int .i64 0, .int .i64 0]] w fun e w' => e = .returned (.int .i64 0) ∧ Below w.heap.size w w' := by
  go_enter Tryd.func14, Tryd.ntmps14
  go_wp2_with (first | (go_at_call 30; refine (in_any _ _ _ _).mono ?_; rintro e w' ⟨rfl, rfl⟩) | (go_at_call 31; refine (key_any _ _).mono ?_; rintro e w' ⟨rfl, rfl⟩) | (go_at_call 32; refine (value_any _ _).mono ?_; rintro e w' ⟨rfl, rfl⟩))
  go_ret
  exact ⟨by simp, (Below.refl _ _).alloc (Nat.le_refl _) _⟩

set_option linter.unusedSimpArgs false in
set_option maxHeartbeats 1000000 in
theorem specOp_2_0 (a b v : Int) (ha : Ch.inB a 0 99 = false) (w : World) :
    Calls Tryd.prog 14 #[.agg #[.int .i64 2, .int .i64 a, .int .i64 b, .int .i64 v]] w fun e w' => e = .returned (.int .i64 3) ∧ Below w.heap.size w w' := by
  go_enter Tryd.func14, Tryd.ntmps14
  go_wp2_with (first | (go_at_call 30; refine (in_any _ _ _ _).mono ?_; rintro e w' ⟨rfl, rfl⟩) | (go_at_call 31; refine (key_any _ _).mono ?_; rintro e w' ⟨rfl, rfl⟩) | (go_at_call 32; refine (value_any _ _).mono ?_; rintro e w' ⟨rfl, rfl⟩))
  go_ret
  exact ⟨by simp, (Below.refl _ _).alloc (Nat.le_refl _) _⟩

set_option linter.unusedSimpArgs false in
set_option maxHeartbeats 1000000 in
theorem specOp_2_1 (a b v : Int) (ha : Ch.inB a 0 99 = true) (hv : Ch.inB v 0 9999 = false) (w : World) :
    Calls Tryd.prog 14 #[.agg #[.int .i64 2, .int .i64 a, .int .i64 b, .int .i64 v]] w fun e w' => e = .returned (.int .i64 3) ∧ Below w.heap.size w w' := by
  go_enter Tryd.func14, Tryd.ntmps14
  go_wp2_with (first | (go_at_call 30; refine (in_any _ _ _ _).mono ?_; rintro e w' ⟨rfl, rfl⟩) | (go_at_call 31; refine (key_any _ _).mono ?_; rintro e w' ⟨rfl, rfl⟩) | (go_at_call 32; refine (value_any _ _).mono ?_; rintro e w' ⟨rfl, rfl⟩))
  go_ret
  exact ⟨by simp, (Below.refl _ _).alloc (Nat.le_refl _) _⟩

set_option linter.unusedSimpArgs false in
set_option maxHeartbeats 1000000 in
theorem specOp_2_2 (a b v : Int) (ha : Ch.inB a 0 99 = true) (hv : Ch.inB v 0 9999 = true) (zb : (b != 0) = true) (w : World) :
    Calls Tryd.prog 14 #[.agg #[.int .i64 2, .int .i64 a, .int .i64 b, .int .i64 v]] w fun e w' => e = .returned (.int .i64 1) ∧ Below w.heap.size w w' := by
  go_enter Tryd.func14, Tryd.ntmps14
  go_wp2_with (first | (go_at_call 30; refine (in_any _ _ _ _).mono ?_; rintro e w' ⟨rfl, rfl⟩) | (go_at_call 31; refine (key_any _ _).mono ?_; rintro e w' ⟨rfl, rfl⟩) | (go_at_call 32; refine (value_any _ _).mono ?_; rintro e w' ⟨rfl, rfl⟩))
  go_ret
  exact ⟨by simp, (Below.refl _ _).alloc (Nat.le_refl _) _⟩

set_option linter.unusedSimpArgs false in
set_option maxHeartbeats 1000000 in
theorem specOp_2_3 (a v : Int) (ha : Ch.inB a 0 99 = true) (hv : Ch.inB v 0 9999 = true) (w : World) :
    Calls Tryd.prog 14 #[.agg #[.int .i64 2, .int .i64 a, .int .i64 0, .int .i64 v]] w fun e w' => e = .returned (.int .i64 0) ∧ Below w.heap.size w w' := by
  go_enter Tryd.func14, Tryd.ntmps14
  go_wp2_with (first | (go_at_call 30; refine (in_any _ _ _ _).mono ?_; rintro e w' ⟨rfl, rfl⟩) | (go_at_call 31; refine (key_any _ _).mono ?_; rintro e w' ⟨rfl, rfl⟩) | (go_at_call 32; refine (value_any _ _).mono ?_; rintro e w' ⟨rfl, rfl⟩))
  go_ret
  exact ⟨by simp, (Below.refl _ _).alloc (Nat.le_refl _) _⟩

set_option linter.unusedSimpArgs false in
set_option maxHeartbeats 1000000 in
theorem specOp_3_0 (a b v : Int) (ha : Ch.inB a 0 99 = false) (w : World) :
    Calls Tryd.prog 14 #[.agg #[.int .i64 3, .int .i64 a, .int .i64 b, .int .i64 v]] w fun e w' => e = .returned (.int .i64 3) ∧ Below w.heap.size w w' := by
  go_enter Tryd.func14, Tryd.ntmps14
  go_wp2_with (first | (go_at_call 30; refine (in_any _ _ _ _).mono ?_; rintro e w' ⟨rfl, rfl⟩) | (go_at_call 31; refine (key_any _ _).mono ?_; rintro e w' ⟨rfl, rfl⟩) | (go_at_call 32; refine (value_any _ _).mono ?_; rintro e w' ⟨rfl, rfl⟩))
  go_ret
  exact ⟨by simp, (Below.refl _ _).alloc (Nat.le_refl _) _⟩

set_option linter.unusedSimpArgs false in
set_option maxHeartbeats 1000000 in
theorem specOp_3_1 (a b v : Int) (ha : Ch.inB a 0 99 = true) (zb : (b != 0) = true) (w : World) :
    Calls Tryd.prog 14 #[.agg #[.int .i64 3, .int .i64 a, .int .i64 b, .int .i64 v]] w fun e w' => e = .returned (.int .i64 1) ∧ Below w.heap.size w w' := by
  go_enter Tryd.func14, Tryd.ntmps14
  go_wp2_with (first | (go_at_call 30; refine (in_any _ _ _ _).mono ?_; rintro e w' ⟨rfl, rfl⟩) | (go_at_call 31; refine (key_any _ _).mono ?_; rintro e w' ⟨rfl, rfl⟩) | (go_at_call 32; refine (value_any _ _).mono ?_; rintro e w' ⟨rfl, rfl⟩))
  go_ret
  exact ⟨by simp, (Below.refl _ _).alloc (Nat.le_refl _) _⟩

set_option linter.unusedSimpArgs false in
set_option maxHeartbeats 1000000 in
theorem specOp_3_2 (a v : Int) (ha : Ch.inB a 0 99 = true) (zv : (v != 0) = true) (w : World) :
    Calls Tryd.prog 14 #[.agg #[.int .i64 3, .int .i64 a, .int .i64 0, .int .i64 v]] w fun e w' => e = .returned (.int .i64 1) ∧ Below w.heap.size w w' := by
  go_enter Tryd.func14, Tryd.ntmps14
  go_wp2_with (first | (go_at_call 30; refine (in_any _ _ _ _).mono ?_; rintro e w' ⟨rfl, rfl⟩) | (go_at_call 31; refine (key_any _ _).mono ?_; rintro e w' ⟨rfl, rfl⟩) | (go_at_call 32; refine (value_any _ _).mono ?_; rintro e w' ⟨rfl, rfl⟩))
  go_ret
  exact ⟨by simp, (Below.refl _ _).alloc (Nat.le_refl _) _⟩

set_option linter.unusedSimpArgs false in
set_option maxHeartbeats 1000000 in
theorem specOp_3_3 (a : Int) (ha : Ch.inB a 0 99 = true) (w : World) :
    Calls Tryd.prog 14 #[.agg #[.int .i64 3, .int .i64 a, .int .i64 0, .int .i64 0]] w fun e w' => e = .returned (.int .i64 0) ∧ Below w.heap.size w w' := by
  go_enter Tryd.func14, Tryd.ntmps14
  go_wp2_with (first | (go_at_call 30; refine (in_any _ _ _ _).mono ?_; rintro e w' ⟨rfl, rfl⟩) | (go_at_call 31; refine (key_any _ _).mono ?_; rintro e w' ⟨rfl, rfl⟩) | (go_at_call 32; refine (value_any _ _).mono ?_; rintro e w' ⟨rfl, rfl⟩))
  go_ret
  exact ⟨by simp, (Below.refl _ _).alloc (Nat.le_refl _) _⟩

set_option linter.unusedSimpArgs false in
set_option maxHeartbeats 1000000 in
theorem specOp_4_0 (a b v : Int) (ha : Ch.inB a 0 99 = false) (w : World) :
    Calls Tryd.prog 14 #[.agg #[.int .i64 4, .int .i64 a, .int .i64 b, .int .i64 v]] w fun e w' => e = .returned (.int .i64 3) ∧ Below w.heap.size w w' := by
  go_enter Tryd.func14, Tryd.ntmps14
  go_wp2_with (first | (go_at_call 30; refine (in_any _ _ _ _).mono ?_; rintro e w' ⟨rfl, rfl⟩) | (go_at_call 31; refine (key_any _ _).mono ?_; rintro e w' ⟨rfl, rfl⟩) | (go_at_call 32; refine (value_any _ _).mono ?_; rintro e w' ⟨rfl, rfl⟩))
  go_ret
  exact ⟨by simp, (Below.refl _ _).alloc (Nat.le_refl _) _⟩

set_option linter.unusedSimpArgs false in
set_option maxHeartbeats 1000000 in
theorem specOp_4_1 (a b v : Int) (ha : Ch.inB a 0 99 = true) (hb : Ch.inB b 0 99 = false) (w : World) :
    Calls Tryd.prog 14 #[.agg #[.int .i64 4, .int .i64 a, .int .i64 b, .int .i64 v]] w fun e w' => e = .returned (.int .i64 3) ∧ Below w.heap.size w w' := by
  go_enter Tryd.func14, Tryd.ntmps14
  go_wp2_with (first | (go_at_call 30; refine (in_any _ _ _ _).mono ?_; rintro e w' ⟨rfl, rfl⟩) | (go_at_call 31; refine (key_any _ _).mono ?_; rintro e w' ⟨rfl, rfl⟩) | (go_at_call 32; refine (value_any _ _).mono ?_; rintro e w' ⟨rfl, rfl⟩))
  go_ret
  exact ⟨by simp, (Below.refl _ _).alloc (Nat.le_refl _) _⟩

set_option linter.unusedSimpArgs false in
set_option maxHeartbeats 1000000 in
theorem specOp_4_2 (a b v : Int) (ha : Ch.inB a 0 99 = true) (hb : Ch.inB b 0 99 = true) (zv : (v != 0) = true) (w : World) :
    Calls Tryd.prog 14 #[.agg #[.int .i64 4, .int .i64 a, .int .i64 b, .int .i64 v]] w fun e w' => e = .returned (.int .i64 1) ∧ Below w.heap.size w w' := by
  go_enter Tryd.func14, Tryd.ntmps14
  go_wp2_with (first | (go_at_call 30; refine (in_any _ _ _ _).mono ?_; rintro e w' ⟨rfl, rfl⟩) | (go_at_call 31; refine (key_any _ _).mono ?_; rintro e w' ⟨rfl, rfl⟩) | (go_at_call 32; refine (value_any _ _).mono ?_; rintro e w' ⟨rfl, rfl⟩))
  go_ret
  exact ⟨by simp, (Below.refl _ _).alloc (Nat.le_refl _) _⟩

set_option linter.unusedSimpArgs false in
set_option maxHeartbeats 1000000 in
theorem specOp_4_3 (a b : Int) (ha : Ch.inB a 0 99 = true) (hb : Ch.inB b 0 99 = true) (w : World) :
    Calls Tryd.prog 14 #[.agg #[.int .i64 4, .int .i64 a, .int .i64 b, .int .i64 0]] w fun e w' => e = .returned (.int .i64 0) ∧ Below w.heap.size w w' := by
  go_enter Tryd.func14, Tryd.ntmps14
  go_wp2_with (first | (go_at_call 30; refine (in_any _ _ _ _).mono ?_; rintro e w' ⟨rfl, rfl⟩) | (go_at_call 31; refine (key_any _ _).mono ?_; rintro e w' ⟨rfl, rfl⟩) | (go_at_call 32; refine (value_any _ _).mono ?_; rintro e w' ⟨rfl, rfl⟩))
  go_ret
  exact ⟨by simp, (Below.refl _ _).alloc (Nat.le_refl _) _⟩

set_option linter.unusedSimpArgs false in
set_option maxHeartbeats 1000000 in
theorem specOp_5_0 (a b v : Int) (hv : Ch.inB v 0 9999 = false) (w : World) :
    Calls Tryd.prog 14 #[.agg #[.int .i64 5, .int .i64 a, .int .i64 b, .int .i64 v]] w fun e w' => e = .returned (.int .i64 3) ∧ Below w.heap.size w w' := by
  go_enter Tryd.func14, Tryd.ntmps14
  go_wp2_with (first | (go_at_call 30; refine (in_any _ _ _ _).mono ?_; rintro e w' ⟨rfl, rfl⟩) | (go_at_call 31; refine (key_any _ _).mono ?_; rintro e w' ⟨rfl, rfl⟩) | (go_at_call 32; refine (value_any _ _).mono ?_; rintro e w' ⟨rfl, rfl⟩))
  go_ret
  exact ⟨by simp, (Below.refl _ _).alloc (Nat.le_refl _) _⟩

set_option linter.unusedSimpArgs false in
set_option maxHeartbeats 1000000 in
theorem specOp_5_1 (a b v : Int) (hv : Ch.inB v 0 9999 = true) (za : (a != 0) = true) (w : World) :
    Calls Tryd.prog 14 #[.agg #[.int .i64 5, .int .i64 a, .int .i64 b, .int .i64 v]] w fun e w' => e = .returned (.int .i64 1) ∧ Below w.heap.size w w' := by
  go_enter Tryd.func14, Tryd.ntmps14
  go_wp2_with (first | (go_at_call 30; refine (in_any _ _ _ _).mono ?_; rintro e w' ⟨rfl, rfl⟩) | (go_at_call 31; refine (key_any _ _).mono ?_; rintro e w' ⟨rfl, rfl⟩) | (go_at_call 32; refine (value_any _ _).mono ?_; rintro e w' ⟨rfl, rfl⟩))
  go_ret
  exact ⟨by simp, (Below.refl _ _).alloc (Nat.le_refl _) _⟩

set_option linter.unusedSimpArgs false in
set_option maxHeartbeats 1000000 in
theorem specOp_5_2 (b v : Int) (hv : Ch.inB v 0 9999 = true) (zb : (b != 0) = true) (w : World) :
    Calls Tryd.prog 14 #[.agg #[.int .i64 5, .int .i64 0, .int .i64 b, .int .i64 v]] w fun e w' => e = .returned (.int .i64 1) ∧ Below w.heap.size w w' := by
  go_enter Tryd.func14, Tryd.ntmps14
  go_wp2_with (first | (go_at_call 30; refine (in_any _ _ _ _).mono ?_; rintro e w' ⟨rfl, rfl⟩) | (go_at_call 31; refine (key_any _ _).mono ?_; rintro e w' ⟨rfl, rfl⟩) | (go_at_call 32; refine (value_any _ _).mono ?_; rintro e w' ⟨rfl, rfl⟩))
  go_ret
  exact ⟨by simp, (Below.refl _ _).alloc (Nat.le_refl _) _⟩

set_option linter.unusedSimpArgs false in
set_option maxHeartbeats 1000000 in
theorem specOp_5_3 (v : Int) (hv : Ch.inB v 0 9999 = true) (w : World) :
    Calls Tryd.prog 14 #[.agg #[.int .i64 5, .int .i64 0, .int .i64 0, .int .i64 v]] w fun e w' => e = .returned (.int .i64 0) ∧ Below w.heap.size w w' := by
  go_enter Tryd.func14, Tryd.ntmps14
  go_wp2_with (first | (go_at_call 30; refine (in_any _ _ _ _).mono ?_; rintro e w' ⟨rfl, rfl⟩) | (go_at_call 31; refine (key_any _ _).mono ?_; rintro e w' ⟨rfl, rfl⟩) | (go_at_call 32; refine (value_any _ _).mono ?_; rintro e w' ⟨rfl, rfl⟩))
  go_ret
  exact ⟨by simp, (Below.refl _ _).alloc (Nat.le_refl _) _⟩

set_option linter.unusedSimpArgs false in
set_option maxHeartbeats 1000000 in
theorem specOp_6_0 (a b v : Int) (za : (a != 0) = true) (w : World) :
    Calls Tryd.prog 14 #[.agg #[.int .i64 6, .int .i64 a, .int .i64 b, .int .i64 v]] w fun e w' => e = .returned (.int .i64 1) ∧ Below w.heap.size w w' := by
  go_enter Tryd.func14, Tryd.ntmps14
  go_wp2_with (first | (go_at_call 30; refine (in_any _ _ _ _).mono ?_; rintro e w' ⟨rfl, rfl⟩) | (go_at_call 31; refine (key_any _ _).mono ?_; rintro e w' ⟨rfl, rfl⟩) | (go_at_call 32; refine (value_any _ _).mono ?_; rintro e w' ⟨rfl, rfl⟩))
  go_ret
  exact ⟨by simp, (Below.refl _ _).alloc (Nat.le_refl _) _⟩

set_option linter.unusedSimpArgs false in
set_option maxHeartbeats 1000000 in
theorem specOp_6_1 (b v : Int) (zb : (b != 0) = true) (w : World) :
    Calls Tryd.prog 14 #[.agg #[.int .i64 6, .int .i64 0, .int .i64 b, .int .i64 v]] w fun e w' => e = .returned (.int .i64 1) ∧ Below w.heap.size w w' := by
  go_enter Tryd.func14, Tryd.ntmps14
  go_wp2_with (first | (go_at_call 30; refine (in_any _ _ _ _).mono ?_; rintro e w' ⟨rfl, rfl⟩) | (go_at_call 31; refine (key_any _ _).mono ?_; rintro e w' ⟨rfl, rfl⟩) | (go_at_call 32; refine (value_any _ _).mono ?_; rintro e w' ⟨rfl, rfl⟩))
  go_ret
  exact ⟨by simp, (Below.refl _ _).alloc (Nat.le_refl _) _⟩

set_option linter.unusedSimpArgs false in
set_option maxHeartbeats 1000000 in
theorem specOp_6_2 (v : Int) (zv : (v != 0) = true) (w : World) :
    Calls Tryd.prog 14 #[.agg #[.int .i64 6, .int .i64 0, .int .i64 0, .int .i64 v]] w fun e w' => e = .returned (.int .i64 1) ∧ Below w.heap.size w w' := by
  go_enter Tryd.func14, Tryd.ntmps14
  go_wp2_with (first | (go_at_call 30; refine (in_any _ _ _ _).mono ?_; rintro e w' ⟨rfl, rfl⟩) | (go_at_call 31; refine (key_any _ _).mono ?_; rintro e w' ⟨rfl, rfl⟩) | (go_at_call 32; refine (value_any _ _).mono ?_; rintro e w' ⟨rfl, rfl⟩))
  go_ret
  exact ⟨by simp, (Below.refl _ _).alloc (Nat.le_refl _) _⟩

set_option linter.unusedSimpArgs false in
set_option maxHeartbeats 1000000 in
theorem specOp_6_3 (w : World) :
    Calls Tryd.prog 14 #[.agg #[.int .i64 6, .int .i64 0, .int .i64 0, .int .i64 0]] w fun e w' => e = .returned (.int .i64 0) ∧ Below w.heap.size w w' := by
  go_enter Tryd.func14, Tryd.ntmps14
  go_wp2_with (first | (go_at_call 30; refine (in_any _ _ _ _).mono ?_; rintro e w' ⟨rfl, rfl⟩) | (go_at_call 31; refine (key_any _ _).mono ?_; rintro e w' ⟨rfl, rfl⟩) | (go_at_call 32; refine (value_any _ _).mono ?_; rintro e w' ⟨rfl, rfl⟩))
  go_ret
  exact ⟨by simp, (Below.refl _ _).alloc (Nat.le_refl _) _⟩

set_option linter.unusedSimpArgs false in
set_option maxHeartbeats 1000000 in
theorem specOp_7_0 (a b v : Int) (za : (a != 0) = true) (w : World) :
    Calls Tryd.prog 14 #[.agg #[.int .i64 7, .int .i64 a, .int .i64 b, .int .i64 v]] w fun e w' => e = .returned (.int .i64 1) ∧ Below w.heap.size w w' := by
  go_enter Tryd.func14, Tryd.ntmps14
  go_wp2_with (first | (go_at_call 30; refine (in_any _ _ _ _).mono ?_; rintro e w' ⟨rfl, rfl⟩) | (go_at_call 31; refine (key_any _ _).mono ?_; rintro e w' ⟨rfl, rfl⟩) | (go_at_call 32; refine (value_any _ _).mono ?_; rintro e w' ⟨rfl, rfl⟩))
  go_ret
  exact ⟨by simp, (Below.refl _ _).alloc (Nat.le_refl _) _⟩

set_option linter.unusedSimpArgs false in
set_option maxHeartbeats 1000000 in
theorem specOp_7_1 (b v : Int) (zb : (b != 0) = true) (w : World) :
    Calls Tryd.prog 14 #[.agg #[.int .i64 7, .int .i64 0, .int .i64 b, .int .i64 v]] w fun e w' => e = .returned (.int .i64 1) ∧ Below w.heap.size w w' := by
  go_enter Tryd.func14, Tryd.ntmps14
  go_wp2_with (first | (go_at_call 30; refine (in_any _ _ _ _).mono ?_; rintro e w' ⟨rfl, rfl⟩) | (go_at_call 31; refine (key_any _ _).mono ?_; rintro e w' ⟨rfl, rfl⟩) | (go_at_call 32; refine (value_any _ _).mono ?_; rintro e w' ⟨rfl, rfl⟩))
  go_ret
  exact ⟨by simp, (Below.refl _ _).alloc (Nat.le_refl _) _⟩

set_option linter.unusedSimpArgs false in
set_option maxHeartbeats 1000000 in
theorem specOp_7_2 (v : Int) (zv : (v != 0) = true) (w : World) :
    Calls Tryd.prog 14 #[.agg #[.int .i64 7, .int .i64 0, .int .i64 0, .int .i64 v]] w fun e w' => e = .returned (.int .i64 1) ∧ Below w.heap.size w w' := by
  go_enter Tryd.func14, Tryd.ntmps14
  go_wp2_with (first | (go_at_call 30; refine (in_any _ _ _ _).mono ?_; rintro e w' ⟨rfl, rfl⟩) | (go_at_call 31; refine (key_any _ _).mono ?_; rintro e w' ⟨rfl, rfl⟩) | (go_at_call 32; refine (value_any _ _).mono ?_; rintro e w' ⟨rfl, rfl⟩))
  go_ret
  exact ⟨by simp, (Below.refl _ _).alloc (Nat.le_refl _) _⟩

set_option linter.unusedSimpArgs false in
set_option maxHeartbeats 1000000 in
theorem specOp_7_3 (w : World) :
    Calls Tryd.prog 14 #[.agg #[.int .i64 7, .int .i64 0, .int .i64 0, .int .i64 0]] w fun e w' => e = .returned (.int .i64 0) ∧ Below w.heap.size w w' := by
  go_enter Tryd.func14, Tryd.ntmps14
  go_wp2_with (first | (go_at_call 30; refine (in_any _ _ _ _).mono ?_; rintro e w' ⟨rfl, rfl⟩) | (go_at_call 31; refine (key_any _ _).mono ?_; rintro e w' ⟨rfl, rfl⟩) | (go_at_call 32; refine (value_any _ _).mono ?_; rintro e w' ⟨rfl, rfl⟩))
  go_ret
  exact ⟨by simp, (Below.refl _ _).alloc (Nat.le_refl _) _⟩

set_option linter.unusedSimpArgs false in
set_option maxHeartbeats 1000000 in
theorem specOp_8_0 (a b v : Int) (ha : Ch.inB a 0 99 = false) (w : World) :
    Calls Tryd.prog 14 #[.agg #[.int .i64 8, .int .i64 a, .int .i64 b, .int .i64 v]] w fun e w' => e = .returned (.int .i64 3) ∧ Below w.heap.size w w' := by
  go_enter Tryd.func14, Tryd.ntmps14
  go_wp2_with (first | (go_at_call 30; refine (in_any _ _ _ _).mono ?_; rintro e w' ⟨rfl, rfl⟩) | (go_at_call 31; refine (key_any _ _).mono ?_; rintro e w' ⟨rfl, rfl⟩) | (go_at_call 32; refine (value_any _ _).mono ?_; rintro e w' ⟨rfl, rfl⟩))
  go_ret
  exact ⟨by simp, (Below.refl _ _).alloc (Nat.le_refl _) _⟩

set_option linter.unusedSimpArgs false in
set_option maxHeartbeats 1000000 in
theorem specOp_8_1 (a b v : Int) (ha : Ch.inB a 0 99 = true) (zb : (b != 0) = true) (w : World) :
    Calls Tryd.prog 14 #[.agg #[.int .i64 8, .int .i64 a, .int .i64 b, .int .i64 v]] w fun e w' => e = .returned (.int .i64 1) ∧ Below w.heap.size w w' := by
  go_enter Tryd.func14, Tryd.ntmps14
  go_wp2_with (first | (go_at_call 30; refine (in_any _ _ _ _).mono ?_; rintro e w' ⟨rfl, rfl⟩) | (go_at_call 31; refine (key_any _ _).mono ?_; rintro e w' ⟨rfl, rfl⟩) | (go_at_call 32; refine (value_any _ _).mono ?_; rintro e w' ⟨rfl, rfl⟩))
  go_ret
  exact ⟨by simp, (Below.refl _ _).alloc (Nat.le_refl _) _⟩

set_option linter.unusedSimpArgs false in
set_option maxHeartbeats 1000000 in
theorem specOp_8_2 (a v : Int) (ha : Ch.inB a 0 99 = true) (zv : (v != 0) = true) (w : World) :
    Calls Tryd.prog 14 #[.agg #[.int .i64 8, .int .i64 a, .int .i64 0, .int .i64 v]] w fun e w' => e = .returned (.int .i64 1) ∧ Below w.heap.size w w' := by
  go_enter Tryd.func14, Tryd.ntmps14
  go_wp2_with (first | (go_at_call 30; refine (in_any _ _ _ _).mono ?_; rintro e w' ⟨rfl, rfl⟩) | (go_at_call 31; refine (key_any _ _).mono ?_; rintro e w' ⟨rfl, rfl⟩) | (go_at_call 32; refine (value_any _ _).mono ?_; rintro e w' ⟨rfl, rfl⟩))
  go_ret
  exact ⟨by simp, (Below.refl _ _).alloc (Nat.le_refl _) _⟩

set_option linter.unusedSimpArgs false in
set_option maxHeartbeats 1000000 in
theorem specOp_8_3 (a : Int) (ha : Ch.inB a 0 99 = true) (w : World) :
    Calls Tryd.prog 14 #[.agg #[.int .i64 8, .int .i64 a, .int .i64 0, .int .i64 0]] w fun e w' => e = .returned (.int .i64 0) ∧ Below w.heap.size w w' := by
  go_enter Tryd.func14, Tryd.ntmps14
  go_wp2_with (first | (go_at_call 30; refine (in_any _ _ _ _).mono ?_; rintro e w' ⟨rfl, rfl⟩) | (go_at_call 31; refine (key_any _ _).mono ?_; rintro e w' ⟨rfl, rfl⟩) | (go_at_call 32; refine (value_any _ _).mono ?_; rintro e w' ⟨rfl, rfl⟩))
  go_ret
  exact ⟨by simp, (Below.refl _ _).alloc (Nat.le_refl _) _⟩

set_option linter.unusedSimpArgs false in
set_option maxHeartbeats 1000000 in
theorem specOp_9_0 (a b v : Int) (za : (a != 0) = true) (w : World) :
    Calls Tryd.prog 14 #[.agg #[.int .i64 9, .int .i64 a, .int .i64 b, .int .i64 v]] w fun e w' => e = .returned (.int .i64 1) ∧ Below w.heap.size w w' := by
  go_enter Tryd.func14, Tryd.ntmps14
  go_wp2_with (first | (go_at_call 30; refine (in_any _ _ _ _).mono ?_; rintro e w' ⟨rfl, rfl⟩) | (go_at_call 31; refine (key_any _ _).mono ?_; rintro e w' ⟨rfl, rfl⟩) | (go_at_call 32; refine (value_any _ _).mono ?_; rintro e w' ⟨rfl, rfl⟩))
  go_ret
  exact ⟨by simp, (Below.refl _ _).alloc (Nat.le_refl _) _⟩

set_option linter.unusedSimpArgs false in
set_option maxHeartbeats 1000000 in
theorem specOp_9_1 (b v : Int) (zb : (b != 0) = true) (w : World) :
    Calls Tryd.prog 14 #[.agg #[.int .i64 9, .int .i64 0, .int .i64 b, .int .i64 v]] w fun e w' => e = .returned (.int .i64 1) ∧ Below w.heap.size w w' := by
  go_enter Tryd.func14, Tryd.ntmps14
  go_wp2_with (first | (go_at_call 30; refine (in_any _ _ _ _).mono ?_; rintro e w' ⟨rfl, rfl⟩) | (go_at_call 31; refine (key_any _ _).mono ?_; rintro e w' ⟨rfl, rfl⟩) | (go_at_call 32; refine (value_any _ _).mono ?_; rintro e w' ⟨rfl, rfl⟩))
  go_ret
  exact ⟨by simp, (Below.refl _ _).alloc (Nat.le_refl _) _⟩

set_option linter.unusedSimpArgs false in
set_option maxHeartbeats 1000000 in
theorem specOp_9_2 (v : Int) (zv : (v != 0) = true) (w : World) :
    Calls Tryd.prog 14 #[.agg #[.int .i64 9, .int .i64 0, .int .i64 0, .int .i64 v]] w fun e w' => e = .returned (.int .i64 1) ∧ Below w.heap.size w w' := by
  go_enter Tryd.func14, Tryd.ntmps14
  go_wp2_with (first | (go_at_call 30; refine (in_any _ _ _ _).mono ?_; rintro e w' ⟨rfl, rfl⟩) | (go_at_call 31; refine (key_any _ _).mono ?_; rintro e w' ⟨rfl, rfl⟩) | (go_at_call 32; refine (value_any _ _).mono ?_; rintro e w' ⟨rfl, rfl⟩))
  go_ret
  exact ⟨by simp, (Below.refl _ _).alloc (Nat.le_refl _) _⟩

set_option linter.unusedSimpArgs false in
set_option maxHeartbeats 1000000 in
theorem specOp_9_3 (w : World) :
    Calls Tryd.prog 14 #[.agg #[.int .i64 9, .int .i64 0, .int .i64 0, .int .i64 0]] w fun e w' => e = .returned (.int .i64 0) ∧ Below w.heap.size w w' := by
  go_enter Tryd.func14, Tryd.ntmps14
  go_wp2_with (first | (go_at_call 30; refine (in_any _ _ _ _).mono ?_; rintro e w' ⟨rfl, rfl⟩) | (go_at_call 31; refine (key_any _ _).mono ?_; rintro e w' ⟨rfl, rfl⟩) | (go_at_call 32; refine (value_any _ _).mono ?_; rintro e w' ⟨rfl, rfl⟩))
  go_ret
  exact ⟨by simp, (Below.refl _ _).alloc (Nat.le_refl _) _⟩

set_option linter.unusedSimpArgs false in
set_option maxHeartbeats 1000000 in
theorem specOp_10_0 (a b v : Int) (za : (a != 0) = true) (w : World) :
    Calls Tryd.prog 14 #[.agg #[.int .i64 10, .int .i64 a, .int .i64 b, .int .i64 v]] w fun e w' => e = .returned (.int .i64 1) ∧ Below w.heap.size w w' := by
  go_enter Tryd.func14, Tryd.ntmps14
  go_wp2_with (first | (go_at_call 30; refine (in_any _ _ _ _).mono ?_; rintro e w' ⟨rfl, rfl⟩) | (go_at_call 31; refine (key_any _ _).mono ?_; rintro e w' ⟨rfl, rfl⟩) | (go_at_call 32; refine (value_any _ _).mono ?_; rintro e w' ⟨rfl, rfl⟩))
  go_ret
  exact ⟨by simp, (Below.refl _ _).alloc (Nat.le_refl _) _⟩

set_option linter.unusedSimpArgs false in
set_option maxHeartbeats 1000000 in
theorem specOp_10_1 (b v : Int) (zb : (b != 0) = true) (w : World) :
    Calls Tryd.prog 14 #[.agg #[.int .i64 10, .int .i64 0, .int .i64 b, .int .i64 v]] w fun e w' => e = .returned (.int .i64 1) ∧ Below w.heap.size w w' := by
  go_enter Tryd.func14, Tryd.ntmps14
  go_wp2_with (first | (go_at_call 30; refine (in_any _ _ _ _).mono ?_; rintro e w' ⟨rfl, rfl⟩) | (go_at_call 31; refine (key_any _ _).mono ?_; rintro e w' ⟨rfl, rfl⟩) | (go_at_call 32; refine (value_any _ _).mono ?_; rintro e w' ⟨rfl, rfl⟩))
  go_ret
  exact ⟨by simp, (Below.refl _ _).alloc (Nat.le_refl _) _⟩

set_option linter.unusedSimpArgs false in
set_option maxHeartbeats 1000000 in
theorem specOp_10_2 (v : Int) (zv : (v != 0) = true) (w : World) :
    Calls Tryd.prog 14 #[.agg #[.int .i64 10, .int .i64 0, .int .i64 0, .int .i64 v]] w fun e w' => e = .returned (.int .i64 1) ∧ Below w.heap.size w w' := by
  go_enter Tryd.func14, Tryd.ntmps14
  go_wp2_with (first | (go_at_call 30; refine (in_any _ _ _ _).mono ?_; rintro e w' ⟨rfl, rfl⟩) | (go_at_call 31; refine (key_any _ _).mono ?_; rintro e w' ⟨rfl, rfl⟩) | (go_at_call 32; refine (value_any _ _).mono ?_; rintro e w' ⟨rfl, rfl⟩))
  go_ret
  exact ⟨by simp, (Below.refl _ _).alloc (Nat.le_refl _) _⟩

set_option linter.unusedSimpArgs false in
set_option maxHeartbeats 1000000 in
theorem specOp_10_3 (w : World) :
    Calls Tryd.prog 14 #[.agg #[.int .i64 10, .int .i64 0, .int .i64 0, .int .i64 0]] w fun e w' => e = .returned (.int .i64 0) ∧ Below w.heap.size w w' := by
  go_enter Tryd.func14, Tryd.ntmps14
  go_wp2_with (first | (go_at_call 30; refine (in_any _ _ _ _).mono ?_; rintro e w' ⟨rfl, rfl⟩) | (go_at_call 31; refine (key_any _ _).mono ?_; rintro e w' ⟨rfl, rfl⟩) | (go_at_call 32; refine (value_any _ _).mono ?_; rintro e w' ⟨rfl, rfl⟩))
  go_ret
  exact ⟨by simp, (Below.refl _ _).alloc (Nat.le_refl _) _⟩

theorem specOp_1 (a b v : Int) (w : World) :
    Calls Tryd.prog 14 #[.agg #[.int .i64 1, .int .i64 a, .int .i64 b, .int .i64 v]] w fun e w' => e = .returned (.int .i64 (Ch.opFault 1 a b v)) ∧ Below w.heap.size w w' := by
  have ku : ∀ c : Int, Ch.opFault 1 a b v = c → (Calls Tryd.prog 14 #[.agg #[.int .i64 1, .int .i64 a, .int .i64 b, .int .i64 v]] w fun e w' => e = .returned (.int .i64 c) ∧ Below w.heap.size w w') → (Calls Tryd.prog 14 #[.agg #[.int .i64 1, .int .i64 a, .int .i64 b, .int .i64 v]] w fun e w' => e = .returned (.int .i64 (Ch.opFault 1 a b v)) ∧ Below w.heap.size w w') := fun c hc h => by rw [hc]; exact h
  cases ha : Ch.inB a 0 99
  · exact ku 3 (by simp [Ch.opFault, *]) (specOp_1_0 a b v ha w)
  by_cases qb : b = 0
  rotate_left
  · have zb : (b != 0) = true := by simpa using qb
    exact ku 1 (by simp [Ch.opFault, *]) (specOp_1_1 a b v ha zb w)
  subst qb
  by_cases qv : v = 0
  rotate_left
  · have zv : (v != 0) = true := by simpa using qv
    exact ku 1 (by simp [Ch.opFault, *]) (specOp_1_2 a v ha zv w)
  subst qv
  exact ku 0 (by simp [Ch.opFault, *]) (specOp_1_3 a ha w)

theorem specOp_2 (a b v : Int) (w : World) :
    Calls Tryd.prog 14 #[.agg #[.int .i64 2, .int .i64 a, .int .i64 b, .int .i64 v]] w fun e w' => e = .returned (.int .i64 (Ch.opFault 2 a b v)) ∧ Below w.heap.size w w' := by
  have ku : ∀ c : Int, Ch.opFault 2 a b v = c → (Calls Tryd.prog 14 #[.agg #[.int .i64 2, .int .i64 a, .int .i64 b, .int .i64 v]] w fun e w' => e = .returned (.int .i64 c) ∧ Below w.heap.size w w') → (Calls Tryd.prog 14 #[.agg #[.int .i64 2, .int .i64 a, .int .i64 b, .int .i64 v]] w fun e w' => e = .returned (.int .i64 (Ch.opFault 2 a b v)) ∧ Below w.heap.size w w') := fun c hc h => by rw [hc]; exact h
  cases ha : Ch.inB a 0 99
  · exact ku 3 (by simp [Ch.opFault, *]) (specOp_2_0 a b v ha w)
  cases hv : Ch.inB v 0 9999
  · exact ku 3 (by simp [Ch.opFault, *]) (specOp_2_1 a b v ha hv w)
  by_cases qb : b = 0
  rotate_left
  · have zb : (b != 0) = true := by simpa using qb
    exact ku 1 (by simp [Ch.opFault, *]) (specOp_2_2 a b v ha hv zb w)
  subst qb
  exact ku 0 (by simp [Ch.opFault, *]) (specOp_2_3 a v ha hv w)

theorem specOp_3 (a b v : Int) (w : World) :
    Calls Tryd.prog 14 #[.agg #[.int .i64 3, .int .i64 a, .int .i64 b, .int .i64 v]] w fun e w' => e = .returned (.int .i64 (Ch.opFault 3 a b v)) ∧ Below w.heap.size w w' := by
  have ku : ∀ c : Int, Ch.opFault 3 a b v = c → (Calls Tryd.prog 14 #[.agg #[.int .i64 3, .int .i64 a, .int .i64 b, .int .i64 v]] w fun e w' => e = .returned (.int .i64 c) ∧ Below w.heap.size w w') → (Calls Tryd.prog 14 #[.agg #[.int .i64 3, .int .i64 a, .int .i64 b, .int .i64 v]] w fun e w' => e = .returned (.int .i64 (Ch.opFault 3 a b v)) ∧ Below w.heap.size w w') := fun c hc h => by rw [hc]; exact h
  cases ha : Ch.inB a 0 99
  · exact ku 3 (by simp [Ch.opFault, *]) (specOp_3_0 a b v ha w)
  by_cases qb : b = 0
  rotate_left
  · have zb : (b != 0) = true := by simpa using qb
    exact ku 1 (by simp [Ch.opFault, *]) (specOp_3_1 a b v ha zb w)
  subst qb
  by_cases qv : v = 0
  rotate_left
  · have zv : (v != 0) = true := by simpa using qv
    exact ku 1 (by simp [Ch.opFault, *]) (specOp_3_2 a v ha zv w)
  subst qv
  exact ku 0 (by simp [Ch.opFault, *]) (specOp_3_3 a ha w)

theorem specOp_4 (a b v : Int) (w : World) :
    Calls Tryd.prog 14 #[.agg #[.int .i64 4, .int .i64 a, .int .i64 b, .int .i64 v]] w fun e w' => e = .returned (.int .i64 (Ch.opFault 4 a b v)) ∧ Below w.heap.size w w' := by
  have ku : ∀ c : Int, Ch.opFault 4 a b v = c → (Calls Tryd.prog 14 #[.agg #[.int .i64 4, .int .i64 a, .int .i64 b, .int .i64 v]] w fun e w' => e = .returned (.int .i64 c) ∧ Below w.heap.size w w') → (Calls Tryd.prog 14 #[.agg #[.int .i64 4, .int .i64 a, .int .i64 b, .int .i64 v]] w fun e w' => e = .returned (.int .i64 (Ch.opFault 4 a b v)) ∧ Below w.heap.size w w') := fun c hc h => by rw [hc]; exact h
  cases ha : Ch.inB a 0 99
  · exact ku 3 (by simp [Ch.opFault, *]) (specOp_4_0 a b v ha w)
  cases hb : Ch.inB b 0 99
  · exact ku 3 (by simp [Ch.opFault, *]) (specOp_4_1 a b v ha hb w)
  by_cases qv : v = 0
  rotate_left
  · have zv : (v != 0) = true := by simpa using qv
    exact ku 1 (by simp [Ch.opFault, *]) (specOp_4_2 a b v ha hb zv w)
  subst qv
  exact ku 0 (by simp [Ch.opFault, *]) (specOp_4_3 a b ha hb w)

theorem specOp_5 (a b v : Int) (w : World) :
    Calls Tryd.prog 14 #[.agg #[.int .i64 5, .int .i64 a, .int .i64 b, .int .i64 v]] w fun e w' => e = .returned (.int .i64 (Ch.opFault 5 a b v)) ∧ Below w.heap.size w w' := by
  have ku : ∀ c : Int, Ch.opFault 5 a b v = c → (Calls Tryd.prog 14 #[.agg #[.int .i64 5, .int .i64 a, .int .i64 b, .int .i64 v]] w fun e w' => e = .returned (.int .i64 c) ∧ Below w.heap.size w w') → (Calls Tryd.prog 14 #[.agg #[.int .i64 5, .int .i64 a, .int .i64 b, .int .i64 v]] w fun e w' => e = .returned (.int .i64 (Ch.opFault 5 a b v)) ∧ Below w.heap.size w w') := fun c hc h => by rw [hc]; exact h
  cases hv : Ch.inB v 0 9999
  · exact ku 3 (by simp [Ch.opFault, *]) (specOp_5_0 a b v hv w)
  by_cases qa : a = 0
  rotate_left
  · have za : (a != 0) = true := by simpa using qa
    exact ku 1 (by simp [Ch.opFault, *]) (specOp_5_1 a b v hv za w)
  subst qa
  by_cases qb : b = 0
  rotate_left
  · have zb : (b != 0) = true := by simpa using qb
    exact ku 1 (by simp [Ch.opFault, *]) (specOp_5_2 b v hv zb w)
  subst qb
  exact ku 0 (by simp [Ch.opFault, *]) (specOp_5_3 v hv w)

theorem specOp_6 (a b v : Int) (w : World) :
    Calls Tryd.prog 14 #[.agg #[.int .i64 6, .int .i64 a, .int .i64 b, .int .i64 v]] w fun e w' => e = .returned (.int .i64 (Ch.opFault 6 a b v)) ∧ Below w.heap.size w w' := by
  have ku : ∀ c : Int, Ch.opFault 6 a b v = c → (Calls Tryd.prog 14 #[.agg #[.int .i64 6, .int .i64 a, .int .i64 b, .int .i64 v]] w fun e w' => e = .returned (.int .i64 c) ∧ Below w.heap.size w w') → (Calls Tryd.prog 14 #[.agg #[.int .i64 6, .int .i64 a, .int .i64 b, .int .i64 v]] w fun e w' => e = .returned (.int .i64 (Ch.opFault 6 a b v)) ∧ Below w.heap.size w w') := fun c hc h => by rw [hc]; exact h
  by_cases qa : a = 0
  rotate_left
  · have za : (a != 0) = true := by simpa using qa
    exact ku 1 (by simp [Ch.opFault, *]) (specOp_6_0 a b v za w)
  subst qa
  by_cases qb : b = 0
  rotate_left
  · have zb : (b != 0) = true := by simpa using qb
    exact ku 1 (by simp [Ch.opFault, *]) (specOp_6_1 b v zb w)
  subst qb
  by_cases qv : v = 0
  rotate_left
  · have zv : (v != 0) = true := by simpa using qv
    exact ku 1 (by simp [Ch.opFault, *]) (specOp_6_2 v zv w)
  subst qv
  exact ku 0 (by simp [Ch.opFault, *]) (specOp_6_3  w)

theorem specOp_7 (a b v : Int) (w : World) :
    Calls Tryd.prog 14 #[.agg #[.int .i64 7, .int .i64 a, .int .i64 b, .int .i64 v]] w fun e w' => e = .returned (.int .i64 (Ch.opFault 7 a b v)) ∧ Below w.heap.size w w' := by
  have ku : ∀ c : Int, Ch.opFault 7 a b v = c → (Calls Tryd.prog 14 #[.agg #[.int .i64 7, .int .i64 a, .int .i64 b, .int .i64 v]] w fun e w' => e = .returned (.int .i64 c) ∧ Below w.heap.size w w') → (Calls Tryd.prog 14 #[.agg #[.int .i64 7, .int .i64 a, .int .i64 b, .int .i64 v]] w fun e w' => e = .returned (.int .i64 (Ch.opFault 7 a b v)) ∧ Below w.heap.size w w') := fun c hc h => by rw [hc]; exact h
  by_cases qa : a = 0
  rotate_left
  · have za : (a != 0) = true := by simpa using qa
    exact ku 1 (by simp [Ch.opFault, *]) (specOp_7_0 a b v za w)
  subst qa
  by_cases qb : b = 0
  rotate_left
  · have zb : (b != 0) = true := by simpa using qb
    exact ku 1 (by simp [Ch.opFault, *]) (specOp_7_1 b v zb w)
  subst qb
  by_cases qv : v = 0
  rotate_left
  · have zv : (v != 0) = true := by simpa using qv
    exact ku 1 (by simp [Ch.opFault, *]) (specOp_7_2 v zv w)
  subst qv
  exact ku 0 (by simp [Ch.opFault, *]) (specOp_7_3  w)

theorem specOp_8 (a b v : Int) (w : World) :
    Calls Tryd.prog 14 #[.agg #[.int .i64 8, .int .i64 a, .int .i64 b, .int .i64 v]] w fun e w' => e = .returned (.int .i64 (Ch.opFault 8 a b v)) ∧ Below w.heap.size w w' := by
  have ku : ∀ c : Int, Ch.opFault 8 a b v = c → (Calls Tryd.prog 14 #[.agg #[.int .i64 8, .int .i64 a, .int .i64 b, .int .i64 v]] w fun e w' => e = .returned (.int .i64 c) ∧ Below w.heap.size w w') → (Calls Tryd.prog 14 #[.agg #[.int .i64 8, .int .i64 a, .int .i64 b, .int .i64 v]] w fun e w' => e = .returned (.int .i64 (Ch.opFault 8 a b v)) ∧ Below w.heap.size w w') := fun c hc h => by rw [hc]; exact h
  cases ha : Ch.inB a 0 99
  · exact ku 3 (by simp [Ch.opFault, *]) (specOp_8_0 a b v ha w)
  by_cases qb : b = 0
  rotate_left
  · have zb : (b != 0) = true := by simpa using qb
    exact ku 1 (by simp [Ch.opFault, *]) (specOp_8_1 a b v ha zb w)
  subst qb
  by_cases qv : v = 0
  rotate_left
  · have zv : (v != 0) = true := by simpa using qv
    exact ku 1 (by simp [Ch.opFault, *]) (specOp_8_2 a v ha zv w)
  subst qv
  exact ku 0 (by simp [Ch.opFault, *]) (specOp_8_3 a ha w)

theorem specOp_9 (a b v : Int) (w : World) :
    Calls Tryd.prog 14 #[.agg #[.int .i64 9, .int .i64 a, .int .i64 b, .int .i64 v]] w fun e w' => e = .returned (.int .i64 (Ch.opFault 9 a b v)) ∧ Below w.heap.size w w' := by
  have ku : ∀ c : Int, Ch.opFault 9 a b v = c → (Calls Tryd.prog 14 #[.agg #[.int .i64 9, .int .i64 a, .int .i64 b, .int .i64 v]] w fun e w' => e = .returned (.int .i64 c) ∧ Below w.heap.size w w') → (Calls Tryd.prog 14 #[.agg #[.int .i64 9, .int .i64 a, .int .i64 b, .int .i64 v]] w fun e w' => e = .returned (.int .i64 (Ch.opFault 9 a b v)) ∧ Below w.heap.size w w') := fun c hc h => by rw [hc]; exact h
  by_cases qa : a = 0
  rotate_left
  · have za : (a != 0) = true := by simpa using qa
    exact ku 1 (by simp [Ch.opFault, *]) (specOp_9_0 a b v za w)
  subst qa
  by_cases qb : b = 0
  rotate_left
  · have zb : (b != 0) = true := by simpa using qb
    exact ku 1 (by simp [Ch.opFault, *]) (specOp_9_1 b v zb w)
  subst qb
  by_cases qv : v = 0
  rotate_left
  · have zv : (v != 0) = true := by simpa using qv
    exact ku 1 (by simp [Ch.opFault, *]) (specOp_9_2 v zv w)
  subst qv
  exact ku 0 (by simp [Ch.opFault, *]) (specOp_9_3  w)

theorem specOp_10 (a b v : Int) (w : World) :
    Calls Tryd.prog 14 #[.agg #[.int .i64 10, .int .i64 a, .int .i64 b, .int .i64 v]] w fun e w' => e = .returned (.int .i64 (Ch.opFault 10 a b v)) ∧ Below w.heap.size w w' := by
  have ku : ∀ c : Int, Ch.opFault 10 a b v = c → (Calls Tryd.prog 14 #[.agg #[.int .i64 10, .int .i64 a, .int .i64 b, .int .i64 v]] w fun e w' => e = .returned (.int .i64 c) ∧ Below w.heap.size w w') → (Calls Tryd.prog 14 #[.agg #[.int .i64 10, .int .i64 a, .int .i64 b, .int .i64 v]] w fun e w' => e = .returned (.int .i64 (Ch.opFault 10 a b v)) ∧ Below w.heap.size w w') := fun c hc h => by rw [hc]; exact h
  by_cases qa : a = 0
  rotate_left
  · have za : (a != 0) = true := by simpa using qa
    exact ku 1 (by simp [Ch.opFault, *]) (specOp_10_0 a b v za w)
  subst qa
  by_cases qb : b = 0
  rotate_left
  · have zb : (b != 0) = true := by simpa using qb
    exact ku 1 (by simp [Ch.opFault, *]) (specOp_10_1 b v zb w)
  subst qb
  by_cases qv : v = 0
  rotate_left
  · have zv : (v != 0) = true := by simpa using qv
    exact ku 1 (by simp [Ch.opFault, *]) (specOp_10_2 v zv w)
  subst qv
  exact ku 0 (by simp [Ch.opFault, *]) (specOp_10_3  w)

theorem specOp_no (k a b v : Int) (hk : Ch.inB k 1 10 = false) (w : World) :
    Calls Tryd.prog 14 #[.agg #[.int .i64 k, .int .i64 a, .int .i64 b, .int .i64 v]] w fun e w' => e = .returned (.int .i64 1) ∧ Below w.heap.size w w' := by
  go_enter Tryd.func14, Tryd.ntmps14
  go_wp2_with (first | (go_at_call 30; refine (in_any _ _ _ _).mono ?_; rintro e w' ⟨rfl, rfl⟩) | (go_at_call 31; refine (key_any _ _).mono ?_; rintro e w' ⟨rfl, rfl⟩) | (go_at_call 32; refine (value_any _ _).mono ?_; rintro e w' ⟨rfl, rfl⟩))
  go_ret
  exact ⟨by simp, (Below.refl _ _).alloc (Nat.le_refl _) _⟩

theorem specOp_any (k a b v : Int) (w : World) :
    Calls Tryd.prog 14 #[.agg #[.int .i64 k, .int .i64 a, .int .i64 b, .int .i64 v]] w fun e w' => e = .returned (.int .i64 (Ch.opFault k a b v)) ∧ Below w.heap.size w w' := by
  rcases Ch.op_cases k with rfl | rfl | rfl | rfl | rfl | rfl | rfl | rfl | rfl | rfl | hk
  · exact specOp_1 a b v w
  · exact specOp_2 a b v w
  · exact specOp_3 a b v w
  · exact specOp_4 a b v w
  · exact specOp_5 a b v w
  · exact specOp_6 a b v w
  · exact specOp_7 a b v w
  · exact specOp_8 a b v w
  · exact specOp_9 a b v w
  · exact specOp_10 a b v w
  · rw [Ch.op_none hk]; exact specOp_no k a b v hk w

end Go.Proofs.YtalhmogaogaekaaDoor
