
/- OpFault of the program, at every argument. -/
import Derived.Test.YtalhmogaogaekaaDoorOpI
namespace Go.Proofs.YtalhmogaogaekaaDoor
open Go.RowKit

set_option linter.unusedSimpArgs false in
set_option maxHeartbeats 1000000 in
theorem implOp_1_0 (a b v : Int) (ha : Ch.inB a 0 99 = false) (w : World) :
    Calls Tryd.prog 18 #[.agg #[.int .i64 1, .int .i64 a, .int .i64 b, .int .i64 v]] w fun e w' => e = .returned (.int .i64 3) ∧ Below w.heap.size w w' := by
  have hc := fun W => fields_readKey a W
  simp only [ha] at hc
  have ho := fun W => opOf_1 a b v W
  clear ha
  go_enter Tryd.func18, Tryd.ntmps18
  go_wp2_with fail
  refine (ho _).mono ?_
  rintro e w1 ⟨rfl, b1⟩
  have b1' := ((Below.refl _ w).alloc (Nat.le_refl _) _).trans (b1.mono (by simp))
  obtain ⟨cA, fA⟩ := bcell b1
  have x0 := cA w.heap.size 0 (by simp)
  have x1 := cA w.heap.size 1 (by simp)
  have x2 := cA w.heap.size 2 (by simp)
  have x3 := cA w.heap.size 3 (by simp)
  clear cA fA ho
  simp [go_sem] at x0 x1 x2 x3
  go_wp2_with fail
  refine (hc _).mono ?_
  rintro e w2 ⟨rfl, b2⟩
  have b2' := b1'.trans (b2.mono b1'.size)
  replace x0 := keep_cell b2 x0
  replace x1 := keep_cell b2 x1
  replace x2 := keep_cell b2 x2
  replace x3 := keep_cell b2 x3
  have hl := lt_of_cell x0
  clear hc b1 b1' b2
  go_wp2
  go_ret
  exact ⟨rfl, by repeat (first | with_reducible exact b2' | with_reducible refine Below.drew ?_ | with_reducible refine Below.alloc ?_ b2'.size _ | with_reducible refine Below.setCell ?_ b2'.size _)⟩

set_option linter.unusedSimpArgs false in
set_option maxHeartbeats 1000000 in
theorem implOp_1_1 (a b v : Int) (ha : Ch.inB a 0 99 = true) (zb : (b != 0) = true) (w : World) :
    Calls Tryd.prog 18 #[.agg #[.int .i64 1, .int .i64 a, .int .i64 b, .int .i64 v]] w fun e w' => e = .returned (.int .i64 1) ∧ Below w.heap.size w w' := by
  have hc := fun W => fields_readKey a W
  simp only [ha] at hc
  have ho := fun W => opOf_1 a b v W
  have hn : ∀ W, (binOp .neq 27 (.agg #[.int .i64 1, .int .i64 a, .int .i64 b, .int .i64 v]) (.agg #[.int .i64 1, .int .i64 a, .int .i64 0, .int .i64 0])).run Tryd.prog W = .ok (.bool true) W := fun W => by
    rw [neqOp]
    first | rfl | (congr 2; done) | (congr 2; simp_all)
  clear ha zb
  go_enter Tryd.func18, Tryd.ntmps18
  go_wp2_with fail
  refine (ho _).mono ?_
  rintro e w1 ⟨rfl, b1⟩
  have b1' := ((Below.refl _ w).alloc (Nat.le_refl _) _).trans (b1.mono (by simp))
  obtain ⟨cA, fA⟩ := bcell b1
  have x0 := cA w.heap.size 0 (by simp)
  have x1 := cA w.heap.size 1 (by simp)
  have x2 := cA w.heap.size 2 (by simp)
  have x3 := cA w.heap.size 3 (by simp)
  clear cA fA ho
  simp [go_sem] at x0 x1 x2 x3
  go_wp2_with fail
  refine (hc _).mono ?_
  rintro e w2 ⟨rfl, b2⟩
  have b2' := b1'.trans (b2.mono b1'.size)
  replace x0 := keep_cell b2 x0
  replace x1 := keep_cell b2 x1
  replace x2 := keep_cell b2 x2
  replace x3 := keep_cell b2 x3
  have hl := lt_of_cell x0
  clear hc b1 b1' b2
  go_wp2
  go_ret
  exact ⟨rfl, by repeat (first | with_reducible exact b2' | with_reducible refine Below.drew ?_ | with_reducible refine Below.alloc ?_ b2'.size _ | with_reducible refine Below.setCell ?_ b2'.size _)⟩

set_option linter.unusedSimpArgs false in
set_option maxHeartbeats 1000000 in
theorem implOp_1_2 (a v : Int) (ha : Ch.inB a 0 99 = true) (zv : (v != 0) = true) (w : World) :
    Calls Tryd.prog 18 #[.agg #[.int .i64 1, .int .i64 a, .int .i64 0, .int .i64 v]] w fun e w' => e = .returned (.int .i64 1) ∧ Below w.heap.size w w' := by
  have hc := fun W => fields_readKey a W
  simp only [ha] at hc
  have ho := fun W => opOf_1 a 0 v W
  have hn : ∀ W, (binOp .neq 27 (.agg #[.int .i64 1, .int .i64 a, .int .i64 0, .int .i64 v]) (.agg #[.int .i64 1, .int .i64 a, .int .i64 0, .int .i64 0])).run Tryd.prog W = .ok (.bool true) W := fun W => by
    rw [neqOp]
    first | rfl | (congr 2; done) | (congr 2; simp_all)
  clear ha zv
  go_enter Tryd.func18, Tryd.ntmps18
  go_wp2_with fail
  refine (ho _).mono ?_
  rintro e w1 ⟨rfl, b1⟩
  have b1' := ((Below.refl _ w).alloc (Nat.le_refl _) _).trans (b1.mono (by simp))
  obtain ⟨cA, fA⟩ := bcell b1
  have x0 := cA w.heap.size 0 (by simp)
  have x1 := cA w.heap.size 1 (by simp)
  have x2 := cA w.heap.size 2 (by simp)
  have x3 := cA w.heap.size 3 (by simp)
  clear cA fA ho
  simp [go_sem] at x0 x1 x2 x3
  go_wp2_with fail
  refine (hc _).mono ?_
  rintro e w2 ⟨rfl, b2⟩
  have b2' := b1'.trans (b2.mono b1'.size)
  replace x0 := keep_cell b2 x0
  replace x1 := keep_cell b2 x1
  replace x2 := keep_cell b2 x2
  replace x3 := keep_cell b2 x3
  have hl := lt_of_cell x0
  clear hc b1 b1' b2
  go_wp2
  go_ret
  exact ⟨rfl, by repeat (first | with_reducible exact b2' | with_reducible refine Below.drew ?_ | with_reducible refine Below.alloc ?_ b2'.size _ | with_reducible refine Below.setCell ?_ b2'.size _)⟩

set_option linter.unusedSimpArgs false in
set_option maxHeartbeats 1000000 in
theorem implOp_1_3 (a : Int) (ha : Ch.inB a 0 99 = true) (w : World) :
    Calls Tryd.prog 18 #[.agg #[.int .i64 1, .int .i64 a, .int .i64 0, .int .i64 0]] w fun e w' => e = .returned (.int .i64 0) ∧ Below w.heap.size w w' := by
  have hc := fun W => fields_readKey a W
  simp only [ha] at hc
  have ho := fun W => opOf_1 a 0 0 W
  have hn : ∀ W, (binOp .neq 27 (.agg #[.int .i64 1, .int .i64 a, .int .i64 0, .int .i64 0]) (.agg #[.int .i64 1, .int .i64 a, .int .i64 0, .int .i64 0])).run Tryd.prog W = .ok (.bool false) W := fun W => by
    rw [neqOp]
    first | rfl | (congr 2; done) | (congr 2; simp_all)
  clear ha
  go_enter Tryd.func18, Tryd.ntmps18
  go_wp2_with fail
  refine (ho _).mono ?_
  rintro e w1 ⟨rfl, b1⟩
  have b1' := ((Below.refl _ w).alloc (Nat.le_refl _) _).trans (b1.mono (by simp))
  obtain ⟨cA, fA⟩ := bcell b1
  have x0 := cA w.heap.size 0 (by simp)
  have x1 := cA w.heap.size 1 (by simp)
  have x2 := cA w.heap.size 2 (by simp)
  have x3 := cA w.heap.size 3 (by simp)
  clear cA fA ho
  simp [go_sem] at x0 x1 x2 x3
  go_wp2_with fail
  refine (hc _).mono ?_
  rintro e w2 ⟨rfl, b2⟩
  have b2' := b1'.trans (b2.mono b1'.size)
  replace x0 := keep_cell b2 x0
  replace x1 := keep_cell b2 x1
  replace x2 := keep_cell b2 x2
  replace x3 := keep_cell b2 x3
  have hl := lt_of_cell x0
  clear hc b1 b1' b2
  go_wp2
  go_ret
  exact ⟨rfl, by repeat (first | with_reducible exact b2' | with_reducible refine Below.drew ?_ | with_reducible refine Below.alloc ?_ b2'.size _ | with_reducible refine Below.setCell ?_ b2'.size _)⟩

set_option linter.unusedSimpArgs false in
set_option maxHeartbeats 1000000 in
theorem implOp_2_0 (a b v : Int) (ha : Ch.inB a 0 99 = false) (w : World) :
    Calls Tryd.prog 18 #[.agg #[.int .i64 2, .int .i64 a, .int .i64 b, .int .i64 v]] w fun e w' => e = .returned (.int .i64 3) ∧ Below w.heap.size w w' := by
  have hc := fun W => fields_setKey_no a v ha W
  have ho := fun W => opOf_2 a b v W
  clear ha
  go_enter Tryd.func18, Tryd.ntmps18
  go_wp2_with fail
  refine (ho _).mono ?_
  rintro e w1 ⟨rfl, b1⟩
  have b1' := ((Below.refl _ w).alloc (Nat.le_refl _) _).trans (b1.mono (by simp))
  obtain ⟨cA, fA⟩ := bcell b1
  have x0 := cA w.heap.size 0 (by simp)
  have x1 := cA w.heap.size 1 (by simp)
  have x2 := cA w.heap.size 2 (by simp)
  have x3 := cA w.heap.size 3 (by simp)
  clear cA fA ho
  simp [go_sem] at x0 x1 x2 x3
  go_wp2_with fail
  refine (hc _).mono ?_
  rintro e w2 ⟨rfl, b2⟩
  have b2' := b1'.trans (b2.mono b1'.size)
  replace x0 := keep_cell b2 x0
  replace x1 := keep_cell b2 x1
  replace x2 := keep_cell b2 x2
  replace x3 := keep_cell b2 x3
  have hl := lt_of_cell x0
  clear hc b1 b1' b2
  go_wp2
  go_ret
  exact ⟨rfl, by repeat (first | with_reducible exact b2' | with_reducible refine Below.drew ?_ | with_reducible refine Below.alloc ?_ b2'.size _ | with_reducible refine Below.setCell ?_ b2'.size _)⟩

set_option linter.unusedSimpArgs false in
set_option maxHeartbeats 1000000 in
theorem implOp_2_1 (a b v : Int) (ha : Ch.inB a 0 99 = true) (hv : Ch.inB v 0 9999 = false) (w : World) :
    Calls Tryd.prog 18 #[.agg #[.int .i64 2, .int .i64 a, .int .i64 b, .int .i64 v]] w fun e w' => e = .returned (.int .i64 3) ∧ Below w.heap.size w w' := by
  have hc := fun W => fields_setKey a v ha W
  simp only [hv] at hc
  have ho := fun W => opOf_2 a b v W
  clear ha hv
  go_enter Tryd.func18, Tryd.ntmps18
  go_wp2_with fail
  refine (ho _).mono ?_
  rintro e w1 ⟨rfl, b1⟩
  have b1' := ((Below.refl _ w).alloc (Nat.le_refl _) _).trans (b1.mono (by simp))
  obtain ⟨cA, fA⟩ := bcell b1
  have x0 := cA w.heap.size 0 (by simp)
  have x1 := cA w.heap.size 1 (by simp)
  have x2 := cA w.heap.size 2 (by simp)
  have x3 := cA w.heap.size 3 (by simp)
  clear cA fA ho
  simp [go_sem] at x0 x1 x2 x3
  go_wp2_with fail
  refine (hc _).mono ?_
  rintro e w2 ⟨rfl, b2⟩
  have b2' := b1'.trans (b2.mono b1'.size)
  replace x0 := keep_cell b2 x0
  replace x1 := keep_cell b2 x1
  replace x2 := keep_cell b2 x2
  replace x3 := keep_cell b2 x3
  have hl := lt_of_cell x0
  clear hc b1 b1' b2
  go_wp2
  go_ret
  exact ⟨rfl, by repeat (first | with_reducible exact b2' | with_reducible refine Below.drew ?_ | with_reducible refine Below.alloc ?_ b2'.size _ | with_reducible refine Below.setCell ?_ b2'.size _)⟩

set_option linter.unusedSimpArgs false in
set_option maxHeartbeats 1000000 in
theorem implOp_2_2 (a b v : Int) (ha : Ch.inB a 0 99 = true) (hv : Ch.inB v 0 9999 = true) (zb : (b != 0) = true) (w : World) :
    Calls Tryd.prog 18 #[.agg #[.int .i64 2, .int .i64 a, .int .i64 b, .int .i64 v]] w fun e w' => e = .returned (.int .i64 1) ∧ Below w.heap.size w w' := by
  have hc := fun W => fields_setKey a v ha W
  simp only [hv] at hc
  have ho := fun W => opOf_2 a b v W
  have hn : ∀ W, (binOp .neq 27 (.agg #[.int .i64 2, .int .i64 a, .int .i64 b, .int .i64 v]) (.agg #[.int .i64 2, .int .i64 a, .int .i64 0, .int .i64 v])).run Tryd.prog W = .ok (.bool true) W := fun W => by
    rw [neqOp]
    first | rfl | (congr 2; done) | (congr 2; simp_all)
  clear ha hv zb
  go_enter Tryd.func18, Tryd.ntmps18
  go_wp2_with fail
  refine (ho _).mono ?_
  rintro e w1 ⟨rfl, b1⟩
  have b1' := ((Below.refl _ w).alloc (Nat.le_refl _) _).trans (b1.mono (by simp))
  obtain ⟨cA, fA⟩ := bcell b1
  have x0 := cA w.heap.size 0 (by simp)
  have x1 := cA w.heap.size 1 (by simp)
  have x2 := cA w.heap.size 2 (by simp)
  have x3 := cA w.heap.size 3 (by simp)
  clear cA fA ho
  simp [go_sem] at x0 x1 x2 x3
  go_wp2_with fail
  refine (hc _).mono ?_
  rintro e w2 ⟨rfl, b2⟩
  have b2' := b1'.trans (b2.mono b1'.size)
  replace x0 := keep_cell b2 x0
  replace x1 := keep_cell b2 x1
  replace x2 := keep_cell b2 x2
  replace x3 := keep_cell b2 x3
  have hl := lt_of_cell x0
  clear hc b1 b1' b2
  go_wp2
  go_ret
  exact ⟨rfl, by repeat (first | with_reducible exact b2' | with_reducible refine Below.drew ?_ | with_reducible refine Below.alloc ?_ b2'.size _ | with_reducible refine Below.setCell ?_ b2'.size _)⟩

set_option linter.unusedSimpArgs false in
set_option maxHeartbeats 1000000 in
theorem implOp_2_3 (a v : Int) (ha : Ch.inB a 0 99 = true) (hv : Ch.inB v 0 9999 = true) (w : World) :
    Calls Tryd.prog 18 #[.agg #[.int .i64 2, .int .i64 a, .int .i64 0, .int .i64 v]] w fun e w' => e = .returned (.int .i64 0) ∧ Below w.heap.size w w' := by
  have hc := fun W => fields_setKey a v ha W
  simp only [hv] at hc
  have ho := fun W => opOf_2 a 0 v W
  have hn : ∀ W, (binOp .neq 27 (.agg #[.int .i64 2, .int .i64 a, .int .i64 0, .int .i64 v]) (.agg #[.int .i64 2, .int .i64 a, .int .i64 0, .int .i64 v])).run Tryd.prog W = .ok (.bool false) W := fun W => by
    rw [neqOp]
    first | rfl | (congr 2; done) | (congr 2; simp_all)
  clear ha hv
  go_enter Tryd.func18, Tryd.ntmps18
  go_wp2_with fail
  refine (ho _).mono ?_
  rintro e w1 ⟨rfl, b1⟩
  have b1' := ((Below.refl _ w).alloc (Nat.le_refl _) _).trans (b1.mono (by simp))
  obtain ⟨cA, fA⟩ := bcell b1
  have x0 := cA w.heap.size 0 (by simp)
  have x1 := cA w.heap.size 1 (by simp)
  have x2 := cA w.heap.size 2 (by simp)
  have x3 := cA w.heap.size 3 (by simp)
  clear cA fA ho
  simp [go_sem] at x0 x1 x2 x3
  go_wp2_with fail
  refine (hc _).mono ?_
  rintro e w2 ⟨rfl, b2⟩
  have b2' := b1'.trans (b2.mono b1'.size)
  replace x0 := keep_cell b2 x0
  replace x1 := keep_cell b2 x1
  replace x2 := keep_cell b2 x2
  replace x3 := keep_cell b2 x3
  have hl := lt_of_cell x0
  clear hc b1 b1' b2
  go_wp2
  go_ret
  exact ⟨rfl, by repeat (first | with_reducible exact b2' | with_reducible refine Below.drew ?_ | with_reducible refine Below.alloc ?_ b2'.size _ | with_reducible refine Below.setCell ?_ b2'.size _)⟩

set_option linter.unusedSimpArgs false in
set_option maxHeartbeats 1000000 in
theorem implOp_3_0 (a b v : Int) (ha : Ch.inB a 0 99 = false) (w : World) :
    Calls Tryd.prog 18 #[.agg #[.int .i64 3, .int .i64 a, .int .i64 b, .int .i64 v]] w fun e w' => e = .returned (.int .i64 3) ∧ Below w.heap.size w w' := by
  have hc := fun W => fields_emptyKey a W
  simp only [ha] at hc
  have ho := fun W => opOf_3 a b v W
  clear ha
  go_enter Tryd.func18, Tryd.ntmps18
  go_wp2_with fail
  refine (ho _).mono ?_
  rintro e w1 ⟨rfl, b1⟩
  have b1' := ((Below.refl _ w).alloc (Nat.le_refl _) _).trans (b1.mono (by simp))
  obtain ⟨cA, fA⟩ := bcell b1
  have x0 := cA w.heap.size 0 (by simp)
  have x1 := cA w.heap.size 1 (by simp)
  have x2 := cA w.heap.size 2 (by simp)
  have x3 := cA w.heap.size 3 (by simp)
  clear cA fA ho
  simp [go_sem] at x0 x1 x2 x3
  go_wp2_with fail
  refine (hc _).mono ?_
  rintro e w2 ⟨rfl, b2⟩
  have b2' := b1'.trans (b2.mono b1'.size)
  replace x0 := keep_cell b2 x0
  replace x1 := keep_cell b2 x1
  replace x2 := keep_cell b2 x2
  replace x3 := keep_cell b2 x3
  have hl := lt_of_cell x0
  clear hc b1 b1' b2
  go_wp2
  go_ret
  exact ⟨rfl, by repeat (first | with_reducible exact b2' | with_reducible refine Below.drew ?_ | with_reducible refine Below.alloc ?_ b2'.size _ | with_reducible refine Below.setCell ?_ b2'.size _)⟩

set_option linter.unusedSimpArgs false in
set_option maxHeartbeats 1000000 in
theorem implOp_3_1 (a b v : Int) (ha : Ch.inB a 0 99 = true) (zb : (b != 0) = true) (w : World) :
    Calls Tryd.prog 18 #[.agg #[.int .i64 3, .int .i64 a, .int .i64 b, .int .i64 v]] w fun e w' => e = .returned (.int .i64 1) ∧ Below w.heap.size w w' := by
  have hc := fun W => fields_emptyKey a W
  simp only [ha] at hc
  have ho := fun W => opOf_3 a b v W
  have hn : ∀ W, (binOp .neq 27 (.agg #[.int .i64 3, .int .i64 a, .int .i64 b, .int .i64 v]) (.agg #[.int .i64 3, .int .i64 a, .int .i64 0, .int .i64 0])).run Tryd.prog W = .ok (.bool true) W := fun W => by
    rw [neqOp]
    first | rfl | (congr 2; done) | (congr 2; simp_all)
  clear ha zb
  go_enter Tryd.func18, Tryd.ntmps18
  go_wp2_with fail
  refine (ho _).mono ?_
  rintro e w1 ⟨rfl, b1⟩
  have b1' := ((Below.refl _ w).alloc (Nat.le_refl _) _).trans (b1.mono (by simp))
  obtain ⟨cA, fA⟩ := bcell b1
  have x0 := cA w.heap.size 0 (by simp)
  have x1 := cA w.heap.size 1 (by simp)
  have x2 := cA w.heap.size 2 (by simp)
  have x3 := cA w.heap.size 3 (by simp)
  clear cA fA ho
  simp [go_sem] at x0 x1 x2 x3
  go_wp2_with fail
  refine (hc _).mono ?_
  rintro e w2 ⟨rfl, b2⟩
  have b2' := b1'.trans (b2.mono b1'.size)
  replace x0 := keep_cell b2 x0
  replace x1 := keep_cell b2 x1
  replace x2 := keep_cell b2 x2
  replace x3 := keep_cell b2 x3
  have hl := lt_of_cell x0
  clear hc b1 b1' b2
  go_wp2
  go_ret
  exact ⟨rfl, by repeat (first | with_reducible exact b2' | with_reducible refine Below.drew ?_ | with_reducible refine Below.alloc ?_ b2'.size _ | with_reducible refine Below.setCell ?_ b2'.size _)⟩

set_option linter.unusedSimpArgs false in
set_option maxHeartbeats 1000000 in
theorem implOp_3_2 (a v : Int) (ha : Ch.inB a 0 99 = true) (zv : (v != 0) = true) (w : World) :
    Calls Tryd.prog 18 #[.agg #[.int .i64 3, .int .i64 a, .int .i64 0, .int .i64 v]] w fun e w' => e = .returned (.int .i64 1) ∧ Below w.heap.size w w' := by
  have hc := fun W => fields_emptyKey a W
  simp only [ha] at hc
  have ho := fun W => opOf_3 a 0 v W
  have hn : ∀ W, (binOp .neq 27 (.agg #[.int .i64 3, .int .i64 a, .int .i64 0, .int .i64 v]) (.agg #[.int .i64 3, .int .i64 a, .int .i64 0, .int .i64 0])).run Tryd.prog W = .ok (.bool true) W := fun W => by
    rw [neqOp]
    first | rfl | (congr 2; done) | (congr 2; simp_all)
  clear ha zv
  go_enter Tryd.func18, Tryd.ntmps18
  go_wp2_with fail
  refine (ho _).mono ?_
  rintro e w1 ⟨rfl, b1⟩
  have b1' := ((Below.refl _ w).alloc (Nat.le_refl _) _).trans (b1.mono (by simp))
  obtain ⟨cA, fA⟩ := bcell b1
  have x0 := cA w.heap.size 0 (by simp)
  have x1 := cA w.heap.size 1 (by simp)
  have x2 := cA w.heap.size 2 (by simp)
  have x3 := cA w.heap.size 3 (by simp)
  clear cA fA ho
  simp [go_sem] at x0 x1 x2 x3
  go_wp2_with fail
  refine (hc _).mono ?_
  rintro e w2 ⟨rfl, b2⟩
  have b2' := b1'.trans (b2.mono b1'.size)
  replace x0 := keep_cell b2 x0
  replace x1 := keep_cell b2 x1
  replace x2 := keep_cell b2 x2
  replace x3 := keep_cell b2 x3
  have hl := lt_of_cell x0
  clear hc b1 b1' b2
  go_wp2
  go_ret
  exact ⟨rfl, by repeat (first | with_reducible exact b2' | with_reducible refine Below.drew ?_ | with_reducible refine Below.alloc ?_ b2'.size _ | with_reducible refine Below.setCell ?_ b2'.size _)⟩

set_option linter.unusedSimpArgs false in
set_option maxHeartbeats 1000000 in
theorem implOp_3_3 (a : Int) (ha : Ch.inB a 0 99 = true) (w : World) :
    Calls Tryd.prog 18 #[.agg #[.int .i64 3, .int .i64 a, .int .i64 0, .int .i64 0]] w fun e w' => e = .returned (.int .i64 0) ∧ Below w.heap.size w w' := by
  have hc := fun W => fields_emptyKey a W
  simp only [ha] at hc
  have ho := fun W => opOf_3 a 0 0 W
  have hn : ∀ W, (binOp .neq 27 (.agg #[.int .i64 3, .int .i64 a, .int .i64 0, .int .i64 0]) (.agg #[.int .i64 3, .int .i64 a, .int .i64 0, .int .i64 0])).run Tryd.prog W = .ok (.bool false) W := fun W => by
    rw [neqOp]
    first | rfl | (congr 2; done) | (congr 2; simp_all)
  clear ha
  go_enter Tryd.func18, Tryd.ntmps18
  go_wp2_with fail
  refine (ho _).mono ?_
  rintro e w1 ⟨rfl, b1⟩
  have b1' := ((Below.refl _ w).alloc (Nat.le_refl _) _).trans (b1.mono (by simp))
  obtain ⟨cA, fA⟩ := bcell b1
  have x0 := cA w.heap.size 0 (by simp)
  have x1 := cA w.heap.size 1 (by simp)
  have x2 := cA w.heap.size 2 (by simp)
  have x3 := cA w.heap.size 3 (by simp)
  clear cA fA ho
  simp [go_sem] at x0 x1 x2 x3
  go_wp2_with fail
  refine (hc _).mono ?_
  rintro e w2 ⟨rfl, b2⟩
  have b2' := b1'.trans (b2.mono b1'.size)
  replace x0 := keep_cell b2 x0
  replace x1 := keep_cell b2 x1
  replace x2 := keep_cell b2 x2
  replace x3 := keep_cell b2 x3
  have hl := lt_of_cell x0
  clear hc b1 b1' b2
  go_wp2
  go_ret
  exact ⟨rfl, by repeat (first | with_reducible exact b2' | with_reducible refine Below.drew ?_ | with_reducible refine Below.alloc ?_ b2'.size _ | with_reducible refine Below.setCell ?_ b2'.size _)⟩

set_option linter.unusedSimpArgs false in
set_option maxHeartbeats 1000000 in
theorem implOp_4_0 (a b v : Int) (ha : Ch.inB a 0 99 = false) (w : World) :
    Calls Tryd.prog 18 #[.agg #[.int .i64 4, .int .i64 a, .int .i64 b, .int .i64 v]] w fun e w' => e = .returned (.int .i64 3) ∧ Below w.heap.size w w' := by
  have hc := fun W => fields_readRange_no a b ha W
  have ho := fun W => opOf_4 a b v W
  clear ha
  go_enter Tryd.func18, Tryd.ntmps18
  go_wp2_with fail
  refine (ho _).mono ?_
  rintro e w1 ⟨rfl, b1⟩
  have b1' := ((Below.refl _ w).alloc (Nat.le_refl _) _).trans (b1.mono (by simp))
  obtain ⟨cA, fA⟩ := bcell b1
  have x0 := cA w.heap.size 0 (by simp)
  have x1 := cA w.heap.size 1 (by simp)
  have x2 := cA w.heap.size 2 (by simp)
  have x3 := cA w.heap.size 3 (by simp)
  clear cA fA ho
  simp [go_sem] at x0 x1 x2 x3
  go_wp2_with fail
  refine (hc _).mono ?_
  rintro e w2 ⟨rfl, b2⟩
  have b2' := b1'.trans (b2.mono b1'.size)
  replace x0 := keep_cell b2 x0
  replace x1 := keep_cell b2 x1
  replace x2 := keep_cell b2 x2
  replace x3 := keep_cell b2 x3
  have hl := lt_of_cell x0
  clear hc b1 b1' b2
  go_wp2
  go_ret
  exact ⟨rfl, by repeat (first | with_reducible exact b2' | with_reducible refine Below.drew ?_ | with_reducible refine Below.alloc ?_ b2'.size _ | with_reducible refine Below.setCell ?_ b2'.size _)⟩

set_option linter.unusedSimpArgs false in
set_option maxHeartbeats 1000000 in
theorem implOp_4_1 (a b v : Int) (ha : Ch.inB a 0 99 = true) (hb : Ch.inB b 0 99 = false) (w : World) :
    Calls Tryd.prog 18 #[.agg #[.int .i64 4, .int .i64 a, .int .i64 b, .int .i64 v]] w fun e w' => e = .returned (.int .i64 3) ∧ Below w.heap.size w w' := by
  have hc := fun W => fields_readRange a b ha W
  simp only [hb] at hc
  have ho := fun W => opOf_4 a b v W
  clear ha hb
  go_enter Tryd.func18, Tryd.ntmps18
  go_wp2_with fail
  refine (ho _).mono ?_
  rintro e w1 ⟨rfl, b1⟩
  have b1' := ((Below.refl _ w).alloc (Nat.le_refl _) _).trans (b1.mono (by simp))
  obtain ⟨cA, fA⟩ := bcell b1
  have x0 := cA w.heap.size 0 (by simp)
  have x1 := cA w.heap.size 1 (by simp)
  have x2 := cA w.heap.size 2 (by simp)
  have x3 := cA w.heap.size 3 (by simp)
  clear cA fA ho
  simp [go_sem] at x0 x1 x2 x3
  go_wp2_with fail
  refine (hc _).mono ?_
  rintro e w2 ⟨rfl, b2⟩
  have b2' := b1'.trans (b2.mono b1'.size)
  replace x0 := keep_cell b2 x0
  replace x1 := keep_cell b2 x1
  replace x2 := keep_cell b2 x2
  replace x3 := keep_cell b2 x3
  have hl := lt_of_cell x0
  clear hc b1 b1' b2
  go_wp2
  go_ret
  exact ⟨rfl, by repeat (first | with_reducible exact b2' | with_reducible refine Below.drew ?_ | with_reducible refine Below.alloc ?_ b2'.size _ | with_reducible refine Below.setCell ?_ b2'.size _)⟩

set_option linter.unusedSimpArgs false in
set_option maxHeartbeats 1000000 in
theorem implOp_4_2 (a b v : Int) (ha : Ch.inB a 0 99 = true) (hb : Ch.inB b 0 99 = true) (zv : (v != 0) = true) (w : World) :
    Calls Tryd.prog 18 #[.agg #[.int .i64 4, .int .i64 a, .int .i64 b, .int .i64 v]] w fun e w' => e = .returned (.int .i64 1) ∧ Below w.heap.size w w' := by
  have hc := fun W => fields_readRange a b ha W
  simp only [hb] at hc
  have ho := fun W => opOf_4 a b v W
  have hn : ∀ W, (binOp .neq 27 (.agg #[.int .i64 4, .int .i64 a, .int .i64 b, .int .i64 v]) (.agg #[.int .i64 4, .int .i64 a, .int .i64 b, .int .i64 0])).run Tryd.prog W = .ok (.bool true) W := fun W => by
    rw [neqOp]
    first | rfl | (congr 2; done) | (congr 2; simp_all)
  clear ha hb zv
  go_enter Tryd.func18, Tryd.ntmps18
  go_wp2_with fail
  refine (ho _).mono ?_
  rintro e w1 ⟨rfl, b1⟩
  have b1' := ((Below.refl _ w).alloc (Nat.le_refl _) _).trans (b1.mono (by simp))
  obtain ⟨cA, fA⟩ := bcell b1
  have x0 := cA w.heap.size 0 (by simp)
  have x1 := cA w.heap.size 1 (by simp)
  have x2 := cA w.heap.size 2 (by simp)
  have x3 := cA w.heap.size 3 (by simp)
  clear cA fA ho
  simp [go_sem] at x0 x1 x2 x3
  go_wp2_with fail
  refine (hc _).mono ?_
  rintro e w2 ⟨rfl, b2⟩
  have b2' := b1'.trans (b2.mono b1'.size)
  replace x0 := keep_cell b2 x0
  replace x1 := keep_cell b2 x1
  replace x2 := keep_cell b2 x2
  replace x3 := keep_cell b2 x3
  have hl := lt_of_cell x0
  clear hc b1 b1' b2
  go_wp2
  go_ret
  exact ⟨rfl, by repeat (first | with_reducible exact b2' | with_reducible refine Below.drew ?_ | with_reducible refine Below.alloc ?_ b2'.size _ | with_reducible refine Below.setCell ?_ b2'.size _)⟩

set_option linter.unusedSimpArgs false in
set_option maxHeartbeats 1000000 in
theorem implOp_4_3 (a b : Int) (ha : Ch.inB a 0 99 = true) (hb : Ch.inB b 0 99 = true) (w : World) :
    Calls Tryd.prog 18 #[.agg #[.int .i64 4, .int .i64 a, .int .i64 b, .int .i64 0]] w fun e w' => e = .returned (.int .i64 0) ∧ Below w.heap.size w w' := by
  have hc := fun W => fields_readRange a b ha W
  simp only [hb] at hc
  have ho := fun W => opOf_4 a b 0 W
  have hn : ∀ W, (binOp .neq 27 (.agg #[.int .i64 4, .int .i64 a, .int .i64 b, .int .i64 0]) (.agg #[.int .i64 4, .int .i64 a, .int .i64 b, .int .i64 0])).run Tryd.prog W = .ok (.bool false) W := fun W => by
    rw [neqOp]
    first | rfl | (congr 2; done) | (congr 2; simp_all)
  clear ha hb
  go_enter Tryd.func18, Tryd.ntmps18
  go_wp2_with fail
  refine (ho _).mono ?_
  rintro e w1 ⟨rfl, b1⟩
  have b1' := ((Below.refl _ w).alloc (Nat.le_refl _) _).trans (b1.mono (by simp))
  obtain ⟨cA, fA⟩ := bcell b1
  have x0 := cA w.heap.size 0 (by simp)
  have x1 := cA w.heap.size 1 (by simp)
  have x2 := cA w.heap.size 2 (by simp)
  have x3 := cA w.heap.size 3 (by simp)
  clear cA fA ho
  simp [go_sem] at x0 x1 x2 x3
  go_wp2_with fail
  refine (hc _).mono ?_
  rintro e w2 ⟨rfl, b2⟩
  have b2' := b1'.trans (b2.mono b1'.size)
  replace x0 := keep_cell b2 x0
  replace x1 := keep_cell b2 x1
  replace x2 := keep_cell b2 x2
  replace x3 := keep_cell b2 x3
  have hl := lt_of_cell x0
  clear hc b1 b1' b2
  go_wp2
  go_ret
  exact ⟨rfl, by repeat (first | with_reducible exact b2' | with_reducible refine Below.drew ?_ | with_reducible refine Below.alloc ?_ b2'.size _ | with_reducible refine Below.setCell ?_ b2'.size _)⟩

set_option linter.unusedSimpArgs false in
set_option maxHeartbeats 1000000 in
theorem implOp_5_0 (a b v : Int) (hv : Ch.inB v 0 9999 = false) (w : World) :
    Calls Tryd.prog 18 #[.agg #[.int .i64 5, .int .i64 a, .int .i64 b, .int .i64 v]] w fun e w' => e = .returned (.int .i64 3) ∧ Below w.heap.size w w' := by
  have hc := fun W => fields_readValue v W
  simp only [hv] at hc
  have ho := fun W => opOf_5 a b v W
  clear hv
  go_enter Tryd.func18, Tryd.ntmps18
  go_wp2_with fail
  refine (ho _).mono ?_
  rintro e w1 ⟨rfl, b1⟩
  have b1' := ((Below.refl _ w).alloc (Nat.le_refl _) _).trans (b1.mono (by simp))
  obtain ⟨cA, fA⟩ := bcell b1
  have x0 := cA w.heap.size 0 (by simp)
  have x1 := cA w.heap.size 1 (by simp)
  have x2 := cA w.heap.size 2 (by simp)
  have x3 := cA w.heap.size 3 (by simp)
  clear cA fA ho
  simp [go_sem] at x0 x1 x2 x3
  go_wp2_with fail
  refine (hc _).mono ?_
  rintro e w2 ⟨rfl, b2⟩
  have b2' := b1'.trans (b2.mono b1'.size)
  replace x0 := keep_cell b2 x0
  replace x1 := keep_cell b2 x1
  replace x2 := keep_cell b2 x2
  replace x3 := keep_cell b2 x3
  have hl := lt_of_cell x0
  clear hc b1 b1' b2
  go_wp2
  go_ret
  exact ⟨rfl, by repeat (first | with_reducible exact b2' | with_reducible refine Below.drew ?_ | with_reducible refine Below.alloc ?_ b2'.size _ | with_reducible refine Below.setCell ?_ b2'.size _)⟩

set_option linter.unusedSimpArgs false in
set_option maxHeartbeats 1000000 in
theorem implOp_5_1 (a b v : Int) (hv : Ch.inB v 0 9999 = true) (za : (a != 0) = true) (w : World) :
    Calls Tryd.prog 18 #[.agg #[.int .i64 5, .int .i64 a, .int .i64 b, .int .i64 v]] w fun e w' => e = .returned (.int .i64 1) ∧ Below w.heap.size w w' := by
  have hc := fun W => fields_readValue v W
  simp only [hv] at hc
  have ho := fun W => opOf_5 a b v W
  have hn : ∀ W, (binOp .neq 27 (.agg #[.int .i64 5, .int .i64 a, .int .i64 b, .int .i64 v]) (.agg #[.int .i64 5, .int .i64 0, .int .i64 0, .int .i64 v])).run Tryd.prog W = .ok (.bool true) W := fun W => by
    rw [neqOp]
    first | rfl | (congr 2; done) | (congr 2; simp_all)
  clear hv za
  go_enter Tryd.func18, Tryd.ntmps18
  go_wp2_with fail
  refine (ho _).mono ?_
  rintro e w1 ⟨rfl, b1⟩
  have b1' := ((Below.refl _ w).alloc (Nat.le_refl _) _).trans (b1.mono (by simp))
  obtain ⟨cA, fA⟩ := bcell b1
  have x0 := cA w.heap.size 0 (by simp)
  have x1 := cA w.heap.size 1 (by simp)
  have x2 := cA w.heap.size 2 (by simp)
  have x3 := cA w.heap.size 3 (by simp)
  clear cA fA ho
  simp [go_sem] at x0 x1 x2 x3
  go_wp2_with fail
  refine (hc _).mono ?_
  rintro e w2 ⟨rfl, b2⟩
  have b2' := b1'.trans (b2.mono b1'.size)
  replace x0 := keep_cell b2 x0
  replace x1 := keep_cell b2 x1
  replace x2 := keep_cell b2 x2
  replace x3 := keep_cell b2 x3
  have hl := lt_of_cell x0
  clear hc b1 b1' b2
  go_wp2
  go_ret
  exact ⟨rfl, by repeat (first | with_reducible exact b2' | with_reducible refine Below.drew ?_ | with_reducible refine Below.alloc ?_ b2'.size _ | with_reducible refine Below.setCell ?_ b2'.size _)⟩

set_option linter.unusedSimpArgs false in
set_option maxHeartbeats 1000000 in
theorem implOp_5_2 (b v : Int) (hv : Ch.inB v 0 9999 = true) (zb : (b != 0) = true) (w : World) :
    Calls Tryd.prog 18 #[.agg #[.int .i64 5, .int .i64 0, .int .i64 b, .int .i64 v]] w fun e w' => e = .returned (.int .i64 1) ∧ Below w.heap.size w w' := by
  have hc := fun W => fields_readValue v W
  simp only [hv] at hc
  have ho := fun W => opOf_5 0 b v W
  have hn : ∀ W, (binOp .neq 27 (.agg #[.int .i64 5, .int .i64 0, .int .i64 b, .int .i64 v]) (.agg #[.int .i64 5, .int .i64 0, .int .i64 0, .int .i64 v])).run Tryd.prog W = .ok (.bool true) W := fun W => by
    rw [neqOp]
    first | rfl | (congr 2; done) | (congr 2; simp_all)
  clear hv zb
  go_enter Tryd.func18, Tryd.ntmps18
  go_wp2_with fail
  refine (ho _).mono ?_
  rintro e w1 ⟨rfl, b1⟩
  have b1' := ((Below.refl _ w).alloc (Nat.le_refl _) _).trans (b1.mono (by simp))
  obtain ⟨cA, fA⟩ := bcell b1
  have x0 := cA w.heap.size 0 (by simp)
  have x1 := cA w.heap.size 1 (by simp)
  have x2 := cA w.heap.size 2 (by simp)
  have x3 := cA w.heap.size 3 (by simp)
  clear cA fA ho
  simp [go_sem] at x0 x1 x2 x3
  go_wp2_with fail
  refine (hc _).mono ?_
  rintro e w2 ⟨rfl, b2⟩
  have b2' := b1'.trans (b2.mono b1'.size)
  replace x0 := keep_cell b2 x0
  replace x1 := keep_cell b2 x1
  replace x2 := keep_cell b2 x2
  replace x3 := keep_cell b2 x3
  have hl := lt_of_cell x0
  clear hc b1 b1' b2
  go_wp2
  go_ret
  exact ⟨rfl, by repeat (first | with_reducible exact b2' | with_reducible refine Below.drew ?_ | with_reducible refine Below.alloc ?_ b2'.size _ | with_reducible refine Below.setCell ?_ b2'.size _)⟩

set_option linter.unusedSimpArgs false in
set_option maxHeartbeats 1000000 in
theorem implOp_5_3 (v : Int) (hv : Ch.inB v 0 9999 = true) (w : World) :
    Calls Tryd.prog 18 #[.agg #[.int .i64 5, .int .i64 0, .int .i64 0, .int .i64 v]] w fun e w' => e = .returned (.int .i64 0) ∧ Below w.heap.size w w' := by
  have hc := fun W => fields_readValue v W
  simp only [hv] at hc
  have ho := fun W => opOf_5 0 0 v W
  have hn : ∀ W, (binOp .neq 27 (.agg #[.int .i64 5, .int .i64 0, .int .i64 0, .int .i64 v]) (.agg #[.int .i64 5, .int .i64 0, .int .i64 0, .int .i64 v])).run Tryd.prog W = .ok (.bool false) W := fun W => by
    rw [neqOp]
    first | rfl | (congr 2; done) | (congr 2; simp_all)
  clear hv
  go_enter Tryd.func18, Tryd.ntmps18
  go_wp2_with fail
  refine (ho _).mono ?_
  rintro e w1 ⟨rfl, b1⟩
  have b1' := ((Below.refl _ w).alloc (Nat.le_refl _) _).trans (b1.mono (by simp))
  obtain ⟨cA, fA⟩ := bcell b1
  have x0 := cA w.heap.size 0 (by simp)
  have x1 := cA w.heap.size 1 (by simp)
  have x2 := cA w.heap.size 2 (by simp)
  have x3 := cA w.heap.size 3 (by simp)
  clear cA fA ho
  simp [go_sem] at x0 x1 x2 x3
  go_wp2_with fail
  refine (hc _).mono ?_
  rintro e w2 ⟨rfl, b2⟩
  have b2' := b1'.trans (b2.mono b1'.size)
  replace x0 := keep_cell b2 x0
  replace x1 := keep_cell b2 x1
  replace x2 := keep_cell b2 x2
  replace x3 := keep_cell b2 x3
  have hl := lt_of_cell x0
  clear hc b1 b1' b2
  go_wp2
  go_ret
  exact ⟨rfl, by repeat (first | with_reducible exact b2' | with_reducible refine Below.drew ?_ | with_reducible refine Below.alloc ?_ b2'.size _ | with_reducible refine Below.setCell ?_ b2'.size _)⟩

set_option linter.unusedSimpArgs false in
set_option maxHeartbeats 1000000 in
theorem implOp_6_0 (a b v : Int) (za : (a != 0) = true) (w : World) :
    Calls Tryd.prog 18 #[.agg #[.int .i64 6, .int .i64 a, .int .i64 b, .int .i64 v]] w fun e w' => e = .returned (.int .i64 1) ∧ Below w.heap.size w w' := by
  have hc := fun W => fields_endTxn W
  have ho := fun W => opOf_6 a b v W
  have hn : ∀ W, (binOp .neq 27 (.agg #[.int .i64 6, .int .i64 a, .int .i64 b, .int .i64 v]) (.agg #[.int .i64 6, .int .i64 0, .int .i64 0, .int .i64 0])).run Tryd.prog W = .ok (.bool true) W := fun W => by
    rw [neqOp]
    first | rfl | (congr 2; done) | (congr 2; simp_all)
  clear za
  go_enter Tryd.func18, Tryd.ntmps18
  go_wp2_with fail
  refine (ho _).mono ?_
  rintro e w1 ⟨rfl, b1⟩
  have b1' := ((Below.refl _ w).alloc (Nat.le_refl _) _).trans (b1.mono (by simp))
  obtain ⟨cA, fA⟩ := bcell b1
  have x0 := cA w.heap.size 0 (by simp)
  have x1 := cA w.heap.size 1 (by simp)
  have x2 := cA w.heap.size 2 (by simp)
  have x3 := cA w.heap.size 3 (by simp)
  clear cA fA ho
  simp [go_sem] at x0 x1 x2 x3
  go_wp2_with fail
  refine (hc _).mono ?_
  rintro e w2 ⟨rfl, b2⟩
  have b2' := b1'.trans (b2.mono b1'.size)
  replace x0 := keep_cell b2 x0
  replace x1 := keep_cell b2 x1
  replace x2 := keep_cell b2 x2
  replace x3 := keep_cell b2 x3
  have hl := lt_of_cell x0
  clear hc b1 b1' b2
  go_wp2
  go_ret
  exact ⟨rfl, by repeat (first | with_reducible exact b2' | with_reducible refine Below.drew ?_ | with_reducible refine Below.alloc ?_ b2'.size _ | with_reducible refine Below.setCell ?_ b2'.size _)⟩

set_option linter.unusedSimpArgs false in
set_option maxHeartbeats 1000000 in
theorem implOp_6_1 (b v : Int) (zb : (b != 0) = true) (w : World) :
    Calls Tryd.prog 18 #[.agg #[.int .i64 6, .int .i64 0, .int .i64 b, .int .i64 v]] w fun e w' => e = .returned (.int .i64 1) ∧ Below w.heap.size w w' := by
  have hc := fun W => fields_endTxn W
  have ho := fun W => opOf_6 0 b v W
  have hn : ∀ W, (binOp .neq 27 (.agg #[.int .i64 6, .int .i64 0, .int .i64 b, .int .i64 v]) (.agg #[.int .i64 6, .int .i64 0, .int .i64 0, .int .i64 0])).run Tryd.prog W = .ok (.bool true) W := fun W => by
    rw [neqOp]
    first | rfl | (congr 2; done) | (congr 2; simp_all)
  clear zb
  go_enter Tryd.func18, Tryd.ntmps18
  go_wp2_with fail
  refine (ho _).mono ?_
  rintro e w1 ⟨rfl, b1⟩
  have b1' := ((Below.refl _ w).alloc (Nat.le_refl _) _).trans (b1.mono (by simp))
  obtain ⟨cA, fA⟩ := bcell b1
  have x0 := cA w.heap.size 0 (by simp)
  have x1 := cA w.heap.size 1 (by simp)
  have x2 := cA w.heap.size 2 (by simp)
  have x3 := cA w.heap.size 3 (by simp)
  clear cA fA ho
  simp [go_sem] at x0 x1 x2 x3
  go_wp2_with fail
  refine (hc _).mono ?_
  rintro e w2 ⟨rfl, b2⟩
  have b2' := b1'.trans (b2.mono b1'.size)
  replace x0 := keep_cell b2 x0
  replace x1 := keep_cell b2 x1
  replace x2 := keep_cell b2 x2
  replace x3 := keep_cell b2 x3
  have hl := lt_of_cell x0
  clear hc b1 b1' b2
  go_wp2
  go_ret
  exact ⟨rfl, by repeat (first | with_reducible exact b2' | with_reducible refine Below.drew ?_ | with_reducible refine Below.alloc ?_ b2'.size _ | with_reducible refine Below.setCell ?_ b2'.size _)⟩

set_option linter.unusedSimpArgs false in
set_option maxHeartbeats 1000000 in
theorem implOp_6_2 (v : Int) (zv : (v != 0) = true) (w : World) :
    Calls Tryd.prog 18 #[.agg #[.int .i64 6, .int .i64 0, .int .i64 0, .int .i64 v]] w fun e w' => e = .returned (.int .i64 1) ∧ Below w.heap.size w w' := by
  have hc := fun W => fields_endTxn W
  have ho := fun W => opOf_6 0 0 v W
  have hn : ∀ W, (binOp .neq 27 (.agg #[.int .i64 6, .int .i64 0, .int .i64 0, .int .i64 v]) (.agg #[.int .i64 6, .int .i64 0, .int .i64 0, .int .i64 0])).run Tryd.prog W = .ok (.bool true) W := fun W => by
    rw [neqOp]
    first | rfl | (congr 2; done) | (congr 2; simp_all)
  clear zv
  go_enter Tryd.func18, Tryd.ntmps18
  go_wp2_with fail
  refine (ho _).mono ?_
  rintro e w1 ⟨rfl, b1⟩
  have b1' := ((Below.refl _ w).alloc (Nat.le_refl _) _).trans (b1.mono (by simp))
  obtain ⟨cA, fA⟩ := bcell b1
  have x0 := cA w.heap.size 0 (by simp)
  have x1 := cA w.heap.size 1 (by simp)
  have x2 := cA w.heap.size 2 (by simp)
  have x3 := cA w.heap.size 3 (by simp)
  clear cA fA ho
  simp [go_sem] at x0 x1 x2 x3
  go_wp2_with fail
  refine (hc _).mono ?_
  rintro e w2 ⟨rfl, b2⟩
  have b2' := b1'.trans (b2.mono b1'.size)
  replace x0 := keep_cell b2 x0
  replace x1 := keep_cell b2 x1
  replace x2 := keep_cell b2 x2
  replace x3 := keep_cell b2 x3
  have hl := lt_of_cell x0
  clear hc b1 b1' b2
  go_wp2
  go_ret
  exact ⟨rfl, by repeat (first | with_reducible exact b2' | with_reducible refine Below.drew ?_ | with_reducible refine Below.alloc ?_ b2'.size _ | with_reducible refine Below.setCell ?_ b2'.size _)⟩

set_option linter.unusedSimpArgs false in
set_option maxHeartbeats 1000000 in
theorem implOp_6_3 (w : World) :
    Calls Tryd.prog 18 #[.agg #[.int .i64 6, .int .i64 0, .int .i64 0, .int .i64 0]] w fun e w' => e = .returned (.int .i64 0) ∧ Below w.heap.size w w' := by
  have hc := fun W => fields_endTxn W
  have ho := fun W => opOf_6 0 0 0 W
  have hn : ∀ W, (binOp .neq 27 (.agg #[.int .i64 6, .int .i64 0, .int .i64 0, .int .i64 0]) (.agg #[.int .i64 6, .int .i64 0, .int .i64 0, .int .i64 0])).run Tryd.prog W = .ok (.bool false) W := fun W => by
    rw [neqOp]
    first | rfl | (congr 2; done) | (congr 2; simp_all)
  go_enter Tryd.func18, Tryd.ntmps18
  go_wp2_with fail
  refine (ho _).mono ?_
  rintro e w1 ⟨rfl, b1⟩
  have b1' := ((Below.refl _ w).alloc (Nat.le_refl _) _).trans (b1.mono (by simp))
  obtain ⟨cA, fA⟩ := bcell b1
  have x0 := cA w.heap.size 0 (by simp)
  have x1 := cA w.heap.size 1 (by simp)
  have x2 := cA w.heap.size 2 (by simp)
  have x3 := cA w.heap.size 3 (by simp)
  clear cA fA ho
  simp [go_sem] at x0 x1 x2 x3
  go_wp2_with fail
  refine (hc _).mono ?_
  rintro e w2 ⟨rfl, b2⟩
  have b2' := b1'.trans (b2.mono b1'.size)
  replace x0 := keep_cell b2 x0
  replace x1 := keep_cell b2 x1
  replace x2 := keep_cell b2 x2
  replace x3 := keep_cell b2 x3
  have hl := lt_of_cell x0
  clear hc b1 b1' b2
  go_wp2
  go_ret
  exact ⟨rfl, by repeat (first | with_reducible exact b2' | with_reducible refine Below.drew ?_ | with_reducible refine Below.alloc ?_ b2'.size _ | with_reducible refine Below.setCell ?_ b2'.size _)⟩

set_option linter.unusedSimpArgs false in
set_option maxHeartbeats 1000000 in
theorem implOp_7_0 (a b v : Int) (za : (a != 0) = true) (w : World) :
    Calls Tryd.prog 18 #[.agg #[.int .i64 7, .int .i64 a, .int .i64 b, .int .i64 v]] w fun e w' => e = .returned (.int .i64 1) ∧ Below w.heap.size w w' := by
  have hc := fun W => fields_endTxn W
  have ho := fun W => opOf_7 a b v W
  have hn : ∀ W, (binOp .neq 27 (.agg #[.int .i64 7, .int .i64 a, .int .i64 b, .int .i64 v]) (.agg #[.int .i64 7, .int .i64 0, .int .i64 0, .int .i64 0])).run Tryd.prog W = .ok (.bool true) W := fun W => by
    rw [neqOp]
    first | rfl | (congr 2; done) | (congr 2; simp_all)
  clear za
  go_enter Tryd.func18, Tryd.ntmps18
  go_wp2_with fail
  refine (ho _).mono ?_
  rintro e w1 ⟨rfl, b1⟩
  have b1' := ((Below.refl _ w).alloc (Nat.le_refl _) _).trans (b1.mono (by simp))
  obtain ⟨cA, fA⟩ := bcell b1
  have x0 := cA w.heap.size 0 (by simp)
  have x1 := cA w.heap.size 1 (by simp)
  have x2 := cA w.heap.size 2 (by simp)
  have x3 := cA w.heap.size 3 (by simp)
  clear cA fA ho
  simp [go_sem] at x0 x1 x2 x3
  go_wp2_with fail
  refine (hc _).mono ?_
  rintro e w2 ⟨rfl, b2⟩
  have b2' := b1'.trans (b2.mono b1'.size)
  replace x0 := keep_cell b2 x0
  replace x1 := keep_cell b2 x1
  replace x2 := keep_cell b2 x2
  replace x3 := keep_cell b2 x3
  have hl := lt_of_cell x0
  clear hc b1 b1' b2
  go_wp2
  go_ret
  exact ⟨rfl, by repeat (first | with_reducible exact b2' | with_reducible refine Below.drew ?_ | with_reducible refine Below.alloc ?_ b2'.size _ | with_reducible refine Below.setCell ?_ b2'.size _)⟩

set_option linter.unusedSimpArgs false in
set_option maxHeartbeats 1000000 in
theorem implOp_7_1 (b v : Int) (zb : (b != 0) = true) (w : World) :
    Calls Tryd.prog 18 #[.agg #[.int .i64 7, .int .i64 0, .int .i64 b, .int .i64 v]] w fun e w' => e = .returned (.int .i64 1) ∧ Below w.heap.size w w' := by
  have hc := fun W => fields_endTxn W
  have ho := fun W => opOf_7 0 b v W
  have hn : ∀ W, (binOp .neq 27 (.agg #[.int .i64 7, .int .i64 0, .int .i64 b, .int .i64 v]) (.agg #[.int .i64 7, .int .i64 0, .int .i64 0, .int .i64 0])).run Tryd.prog W = .ok (.bool true) W := fun W => by
    rw [neqOp]
    first | rfl | (congr 2; done) | (congr 2; simp_all)
  clear zb
  go_enter Tryd.func18, Tryd.ntmps18
  go_wp2_with fail
  refine (ho _).mono ?_
  rintro e w1 ⟨rfl, b1⟩
  have b1' := ((Below.refl _ w).alloc (Nat.le_refl _) _).trans (b1.mono (by simp))
  obtain ⟨cA, fA⟩ := bcell b1
  have x0 := cA w.heap.size 0 (by simp)
  have x1 := cA w.heap.size 1 (by simp)
  have x2 := cA w.heap.size 2 (by simp)
  have x3 := cA w.heap.size 3 (by simp)
  clear cA fA ho
  simp [go_sem] at x0 x1 x2 x3
  go_wp2_with fail
  refine (hc _).mono ?_
  rintro e w2 ⟨rfl, b2⟩
  have b2' := b1'.trans (b2.mono b1'.size)
  replace x0 := keep_cell b2 x0
  replace x1 := keep_cell b2 x1
  replace x2 := keep_cell b2 x2
  replace x3 := keep_cell b2 x3
  have hl := lt_of_cell x0
  clear hc b1 b1' b2
  go_wp2
  go_ret
  exact ⟨rfl, by repeat (first | with_reducible exact b2' | with_reducible refine Below.drew ?_ | with_reducible refine Below.alloc ?_ b2'.size _ | with_reducible refine Below.setCell ?_ b2'.size _)⟩

set_option linter.unusedSimpArgs false in
set_option maxHeartbeats 1000000 in
theorem implOp_7_2 (v : Int) (zv : (v != 0) = true) (w : World) :
    Calls Tryd.prog 18 #[.agg #[.int .i64 7, .int .i64 0, .int .i64 0, .int .i64 v]] w fun e w' => e = .returned (.int .i64 1) ∧ Below w.heap.size w w' := by
  have hc := fun W => fields_endTxn W
  have ho := fun W => opOf_7 0 0 v W
  have hn : ∀ W, (binOp .neq 27 (.agg #[.int .i64 7, .int .i64 0, .int .i64 0, .int .i64 v]) (.agg #[.int .i64 7, .int .i64 0, .int .i64 0, .int .i64 0])).run Tryd.prog W = .ok (.bool true) W := fun W => by
    rw [neqOp]
    first | rfl | (congr 2; done) | (congr 2; simp_all)
  clear zv
  go_enter Tryd.func18, Tryd.ntmps18
  go_wp2_with fail
  refine (ho _).mono ?_
  rintro e w1 ⟨rfl, b1⟩
  have b1' := ((Below.refl _ w).alloc (Nat.le_refl _) _).trans (b1.mono (by simp))
  obtain ⟨cA, fA⟩ := bcell b1
  have x0 := cA w.heap.size 0 (by simp)
  have x1 := cA w.heap.size 1 (by simp)
  have x2 := cA w.heap.size 2 (by simp)
  have x3 := cA w.heap.size 3 (by simp)
  clear cA fA ho
  simp [go_sem] at x0 x1 x2 x3
  go_wp2_with fail
  refine (hc _).mono ?_
  rintro e w2 ⟨rfl, b2⟩
  have b2' := b1'.trans (b2.mono b1'.size)
  replace x0 := keep_cell b2 x0
  replace x1 := keep_cell b2 x1
  replace x2 := keep_cell b2 x2
  replace x3 := keep_cell b2 x3
  have hl := lt_of_cell x0
  clear hc b1 b1' b2
  go_wp2
  go_ret
  exact ⟨rfl, by repeat (first | with_reducible exact b2' | with_reducible refine Below.drew ?_ | with_reducible refine Below.alloc ?_ b2'.size _ | with_reducible refine Below.setCell ?_ b2'.size _)⟩

set_option linter.unusedSimpArgs false in
set_option maxHeartbeats 1000000 in
theorem implOp_7_3 (w : World) :
    Calls Tryd.prog 18 #[.agg #[.int .i64 7, .int .i64 0, .int .i64 0, .int .i64 0]] w fun e w' => e = .returned (.int .i64 0) ∧ Below w.heap.size w w' := by
  have hc := fun W => fields_endTxn W
  have ho := fun W => opOf_7 0 0 0 W
  have hn : ∀ W, (binOp .neq 27 (.agg #[.int .i64 7, .int .i64 0, .int .i64 0, .int .i64 0]) (.agg #[.int .i64 7, .int .i64 0, .int .i64 0, .int .i64 0])).run Tryd.prog W = .ok (.bool false) W := fun W => by
    rw [neqOp]
    first | rfl | (congr 2; done) | (congr 2; simp_all)
  go_enter Tryd.func18, Tryd.ntmps18
  go_wp2_with fail
  refine (ho _).mono ?_
  rintro e w1 ⟨rfl, b1⟩
  have b1' := ((Below.refl _ w).alloc (Nat.le_refl _) _).trans (b1.mono (by simp))
  obtain ⟨cA, fA⟩ := bcell b1
  have x0 := cA w.heap.size 0 (by simp)
  have x1 := cA w.heap.size 1 (by simp)
  have x2 := cA w.heap.size 2 (by simp)
  have x3 := cA w.heap.size 3 (by simp)
  clear cA fA ho
  simp [go_sem] at x0 x1 x2 x3
  go_wp2_with fail
  refine (hc _).mono ?_
  rintro e w2 ⟨rfl, b2⟩
  have b2' := b1'.trans (b2.mono b1'.size)
  replace x0 := keep_cell b2 x0
  replace x1 := keep_cell b2 x1
  replace x2 := keep_cell b2 x2
  replace x3 := keep_cell b2 x3
  have hl := lt_of_cell x0
  clear hc b1 b1' b2
  go_wp2
  go_ret
  exact ⟨rfl, by repeat (first | with_reducible exact b2' | with_reducible refine Below.drew ?_ | with_reducible refine Below.alloc ?_ b2'.size _ | with_reducible refine Below.setCell ?_ b2'.size _)⟩

set_option linter.unusedSimpArgs false in
set_option maxHeartbeats 1000000 in
theorem implOp_8_0 (a b v : Int) (ha : Ch.inB a 0 99 = false) (w : World) :
    Calls Tryd.prog 18 #[.agg #[.int .i64 8, .int .i64 a, .int .i64 b, .int .i64 v]] w fun e w' => e = .returned (.int .i64 3) ∧ Below w.heap.size w w' := by
  have hc := fun W => fields_emptyKey a W
  simp only [ha] at hc
  have ho := fun W => opOf_8 a b v W
  clear ha
  go_enter Tryd.func18, Tryd.ntmps18
  go_wp2_with fail
  refine (ho _).mono ?_
  rintro e w1 ⟨rfl, b1⟩
  have b1' := ((Below.refl _ w).alloc (Nat.le_refl _) _).trans (b1.mono (by simp))
  obtain ⟨cA, fA⟩ := bcell b1
  have x0 := cA w.heap.size 0 (by simp)
  have x1 := cA w.heap.size 1 (by simp)
  have x2 := cA w.heap.size 2 (by simp)
  have x3 := cA w.heap.size 3 (by simp)
  clear cA fA ho
  simp [go_sem] at x0 x1 x2 x3
  go_wp2_with fail
  refine (hc _).mono ?_
  rintro e w2 ⟨rfl, b2⟩
  have b2' := b1'.trans (b2.mono b1'.size)
  replace x0 := keep_cell b2 x0
  replace x1 := keep_cell b2 x1
  replace x2 := keep_cell b2 x2
  replace x3 := keep_cell b2 x3
  have hl := lt_of_cell x0
  clear hc b1 b1' b2
  go_wp2
  go_ret
  exact ⟨rfl, by repeat (first | with_reducible exact b2' | with_reducible refine Below.drew ?_ | with_reducible refine Below.alloc ?_ b2'.size _ | with_reducible refine Below.setCell ?_ b2'.size _)⟩

set_option linter.unusedSimpArgs false in
set_option maxHeartbeats 1000000 in
theorem implOp_8_1 (a b v : Int) (ha : Ch.inB a 0 99 = true) (zb : (b != 0) = true) (w : World) :
    Calls Tryd.prog 18 #[.agg #[.int .i64 8, .int .i64 a, .int .i64 b, .int .i64 v]] w fun e w' => e = .returned (.int .i64 1) ∧ Below w.heap.size w w' := by
  have hc := fun W => fields_emptyKey a W
  simp only [ha] at hc
  have ho := fun W => opOf_8 a b v W
  have hn : ∀ W, (binOp .neq 27 (.agg #[.int .i64 8, .int .i64 a, .int .i64 b, .int .i64 v]) (.agg #[.int .i64 8, .int .i64 a, .int .i64 0, .int .i64 0])).run Tryd.prog W = .ok (.bool true) W := fun W => by
    rw [neqOp]
    first | rfl | (congr 2; done) | (congr 2; simp_all)
  clear ha zb
  go_enter Tryd.func18, Tryd.ntmps18
  go_wp2_with fail
  refine (ho _).mono ?_
  rintro e w1 ⟨rfl, b1⟩
  have b1' := ((Below.refl _ w).alloc (Nat.le_refl _) _).trans (b1.mono (by simp))
  obtain ⟨cA, fA⟩ := bcell b1
  have x0 := cA w.heap.size 0 (by simp)
  have x1 := cA w.heap.size 1 (by simp)
  have x2 := cA w.heap.size 2 (by simp)
  have x3 := cA w.heap.size 3 (by simp)
  clear cA fA ho
  simp [go_sem] at x0 x1 x2 x3
  go_wp2_with fail
  refine (hc _).mono ?_
  rintro e w2 ⟨rfl, b2⟩
  have b2' := b1'.trans (b2.mono b1'.size)
  replace x0 := keep_cell b2 x0
  replace x1 := keep_cell b2 x1
  replace x2 := keep_cell b2 x2
  replace x3 := keep_cell b2 x3
  have hl := lt_of_cell x0
  clear hc b1 b1' b2
  go_wp2
  go_ret
  exact ⟨rfl, by repeat (first | with_reducible exact b2' | with_reducible refine Below.drew ?_ | with_reducible refine Below.alloc ?_ b2'.size _ | with_reducible refine Below.setCell ?_ b2'.size _)⟩

set_option linter.unusedSimpArgs false in
set_option maxHeartbeats 1000000 in
theorem implOp_8_2 (a v : Int) (ha : Ch.inB a 0 99 = true) (zv : (v != 0) = true) (w : World) :
    Calls Tryd.prog 18 #[.agg #[.int .i64 8, .int .i64 a, .int .i64 0, .int .i64 v]] w fun e w' => e = .returned (.int .i64 1) ∧ Below w.heap.size w w' := by
  have hc := fun W => fields_emptyKey a W
  simp only [ha] at hc
  have ho := fun W => opOf_8 a 0 v W
  have hn : ∀ W, (binOp .neq 27 (.agg #[.int .i64 8, .int .i64 a, .int .i64 0, .int .i64 v]) (.agg #[.int .i64 8, .int .i64 a, .int .i64 0, .int .i64 0])).run Tryd.prog W = .ok (.bool true) W := fun W => by
    rw [neqOp]
    first | rfl | (congr 2; done) | (congr 2; simp_all)
  clear ha zv
  go_enter Tryd.func18, Tryd.ntmps18
  go_wp2_with fail
  refine (ho _).mono ?_
  rintro e w1 ⟨rfl, b1⟩
  have b1' := ((Below.refl _ w).alloc (Nat.le_refl _) _).trans (b1.mono (by simp))
  obtain ⟨cA, fA⟩ := bcell b1
  have x0 := cA w.heap.size 0 (by simp)
  have x1 := cA w.heap.size 1 (by simp)
  have x2 := cA w.heap.size 2 (by simp)
  have x3 := cA w.heap.size 3 (by simp)
  clear cA fA ho
  simp [go_sem] at x0 x1 x2 x3
  go_wp2_with fail
  refine (hc _).mono ?_
  rintro e w2 ⟨rfl, b2⟩
  have b2' := b1'.trans (b2.mono b1'.size)
  replace x0 := keep_cell b2 x0
  replace x1 := keep_cell b2 x1
  replace x2 := keep_cell b2 x2
  replace x3 := keep_cell b2 x3
  have hl := lt_of_cell x0
  clear hc b1 b1' b2
  go_wp2
  go_ret
  exact ⟨rfl, by repeat (first | with_reducible exact b2' | with_reducible refine Below.drew ?_ | with_reducible refine Below.alloc ?_ b2'.size _ | with_reducible refine Below.setCell ?_ b2'.size _)⟩

set_option linter.unusedSimpArgs false in
set_option maxHeartbeats 1000000 in
theorem implOp_8_3 (a : Int) (ha : Ch.inB a 0 99 = true) (w : World) :
    Calls Tryd.prog 18 #[.agg #[.int .i64 8, .int .i64 a, .int .i64 0, .int .i64 0]] w fun e w' => e = .returned (.int .i64 0) ∧ Below w.heap.size w w' := by
  have hc := fun W => fields_emptyKey a W
  simp only [ha] at hc
  have ho := fun W => opOf_8 a 0 0 W
  have hn : ∀ W, (binOp .neq 27 (.agg #[.int .i64 8, .int .i64 a, .int .i64 0, .int .i64 0]) (.agg #[.int .i64 8, .int .i64 a, .int .i64 0, .int .i64 0])).run Tryd.prog W = .ok (.bool false) W := fun W => by
    rw [neqOp]
    first | rfl | (congr 2; done) | (congr 2; simp_all)
  clear ha
  go_enter Tryd.func18, Tryd.ntmps18
  go_wp2_with fail
  refine (ho _).mono ?_
  rintro e w1 ⟨rfl, b1⟩
  have b1' := ((Below.refl _ w).alloc (Nat.le_refl _) _).trans (b1.mono (by simp))
  obtain ⟨cA, fA⟩ := bcell b1
  have x0 := cA w.heap.size 0 (by simp)
  have x1 := cA w.heap.size 1 (by simp)
  have x2 := cA w.heap.size 2 (by simp)
  have x3 := cA w.heap.size 3 (by simp)
  clear cA fA ho
  simp [go_sem] at x0 x1 x2 x3
  go_wp2_with fail
  refine (hc _).mono ?_
  rintro e w2 ⟨rfl, b2⟩
  have b2' := b1'.trans (b2.mono b1'.size)
  replace x0 := keep_cell b2 x0
  replace x1 := keep_cell b2 x1
  replace x2 := keep_cell b2 x2
  replace x3 := keep_cell b2 x3
  have hl := lt_of_cell x0
  clear hc b1 b1' b2
  go_wp2
  go_ret
  exact ⟨rfl, by repeat (first | with_reducible exact b2' | with_reducible refine Below.drew ?_ | with_reducible refine Below.alloc ?_ b2'.size _ | with_reducible refine Below.setCell ?_ b2'.size _)⟩

set_option linter.unusedSimpArgs false in
set_option maxHeartbeats 1000000 in
theorem implOp_9_0 (a b v : Int) (za : (a != 0) = true) (w : World) :
    Calls Tryd.prog 18 #[.agg #[.int .i64 9, .int .i64 a, .int .i64 b, .int .i64 v]] w fun e w' => e = .returned (.int .i64 1) ∧ Below w.heap.size w w' := by
  have hc := fun W => fields_moveRows W
  have ho := fun W => opOf_9 a b v W
  have hn : ∀ W, (binOp .neq 27 (.agg #[.int .i64 9, .int .i64 a, .int .i64 b, .int .i64 v]) (.agg #[.int .i64 9, .int .i64 0, .int .i64 0, .int .i64 0])).run Tryd.prog W = .ok (.bool true) W := fun W => by
    rw [neqOp]
    first | rfl | (congr 2; done) | (congr 2; simp_all)
  clear za
  go_enter Tryd.func18, Tryd.ntmps18
  go_wp2_with fail
  refine (ho _).mono ?_
  rintro e w1 ⟨rfl, b1⟩
  have b1' := ((Below.refl _ w).alloc (Nat.le_refl _) _).trans (b1.mono (by simp))
  obtain ⟨cA, fA⟩ := bcell b1
  have x0 := cA w.heap.size 0 (by simp)
  have x1 := cA w.heap.size 1 (by simp)
  have x2 := cA w.heap.size 2 (by simp)
  have x3 := cA w.heap.size 3 (by simp)
  clear cA fA ho
  simp [go_sem] at x0 x1 x2 x3
  go_wp2_with fail
  refine (hc _).mono ?_
  rintro e w2 ⟨rfl, b2⟩
  have b2' := b1'.trans (b2.mono b1'.size)
  replace x0 := keep_cell b2 x0
  replace x1 := keep_cell b2 x1
  replace x2 := keep_cell b2 x2
  replace x3 := keep_cell b2 x3
  have hl := lt_of_cell x0
  clear hc b1 b1' b2
  go_wp2
  go_ret
  exact ⟨rfl, by repeat (first | with_reducible exact b2' | with_reducible refine Below.drew ?_ | with_reducible refine Below.alloc ?_ b2'.size _ | with_reducible refine Below.setCell ?_ b2'.size _)⟩

set_option linter.unusedSimpArgs false in
set_option maxHeartbeats 1000000 in
theorem implOp_9_1 (b v : Int) (zb : (b != 0) = true) (w : World) :
    Calls Tryd.prog 18 #[.agg #[.int .i64 9, .int .i64 0, .int .i64 b, .int .i64 v]] w fun e w' => e = .returned (.int .i64 1) ∧ Below w.heap.size w w' := by
  have hc := fun W => fields_moveRows W
  have ho := fun W => opOf_9 0 b v W
  have hn : ∀ W, (binOp .neq 27 (.agg #[.int .i64 9, .int .i64 0, .int .i64 b, .int .i64 v]) (.agg #[.int .i64 9, .int .i64 0, .int .i64 0, .int .i64 0])).run Tryd.prog W = .ok (.bool true) W := fun W => by
    rw [neqOp]
    first | rfl | (congr 2; done) | (congr 2; simp_all)
  clear zb
  go_enter Tryd.func18, Tryd.ntmps18
  go_wp2_with fail
  refine (ho _).mono ?_
  rintro e w1 ⟨rfl, b1⟩
  have b1' := ((Below.refl _ w).alloc (Nat.le_refl _) _).trans (b1.mono (by simp))
  obtain ⟨cA, fA⟩ := bcell b1
  have x0 := cA w.heap.size 0 (by simp)
  have x1 := cA w.heap.size 1 (by simp)
  have x2 := cA w.heap.size 2 (by simp)
  have x3 := cA w.heap.size 3 (by simp)
  clear cA fA ho
  simp [go_sem] at x0 x1 x2 x3
  go_wp2_with fail
  refine (hc _).mono ?_
  rintro e w2 ⟨rfl, b2⟩
  have b2' := b1'.trans (b2.mono b1'.size)
  replace x0 := keep_cell b2 x0
  replace x1 := keep_cell b2 x1
  replace x2 := keep_cell b2 x2
  replace x3 := keep_cell b2 x3
  have hl := lt_of_cell x0
  clear hc b1 b1' b2
  go_wp2
  go_ret
  exact ⟨rfl, by repeat (first | with_reducible exact b2' | with_reducible refine Below.drew ?_ | with_reducible refine Below.alloc ?_ b2'.size _ | with_reducible refine Below.setCell ?_ b2'.size _)⟩

set_option linter.unusedSimpArgs false in
set_option maxHeartbeats 1000000 in
theorem implOp_9_2 (v : Int) (zv : (v != 0) = true) (w : World) :
    Calls Tryd.prog 18 #[.agg #[.int .i64 9, .int .i64 0, .int .i64 0, .int .i64 v]] w fun e w' => e = .returned (.int .i64 1) ∧ Below w.heap.size w w' := by
  have hc := fun W => fields_moveRows W
  have ho := fun W => opOf_9 0 0 v W
  have hn : ∀ W, (binOp .neq 27 (.agg #[.int .i64 9, .int .i64 0, .int .i64 0, .int .i64 v]) (.agg #[.int .i64 9, .int .i64 0, .int .i64 0, .int .i64 0])).run Tryd.prog W = .ok (.bool true) W := fun W => by
    rw [neqOp]
    first | rfl | (congr 2; done) | (congr 2; simp_all)
  clear zv
  go_enter Tryd.func18, Tryd.ntmps18
  go_wp2_with fail
  refine (ho _).mono ?_
  rintro e w1 ⟨rfl, b1⟩
  have b1' := ((Below.refl _ w).alloc (Nat.le_refl _) _).trans (b1.mono (by simp))
  obtain ⟨cA, fA⟩ := bcell b1
  have x0 := cA w.heap.size 0 (by simp)
  have x1 := cA w.heap.size 1 (by simp)
  have x2 := cA w.heap.size 2 (by simp)
  have x3 := cA w.heap.size 3 (by simp)
  clear cA fA ho
  simp [go_sem] at x0 x1 x2 x3
  go_wp2_with fail
  refine (hc _).mono ?_
  rintro e w2 ⟨rfl, b2⟩
  have b2' := b1'.trans (b2.mono b1'.size)
  replace x0 := keep_cell b2 x0
  replace x1 := keep_cell b2 x1
  replace x2 := keep_cell b2 x2
  replace x3 := keep_cell b2 x3
  have hl := lt_of_cell x0
  clear hc b1 b1' b2
  go_wp2
  go_ret
  exact ⟨rfl, by repeat (first | with_reducible exact b2' | with_reducible refine Below.drew ?_ | with_reducible refine Below.alloc ?_ b2'.size _ | with_reducible refine Below.setCell ?_ b2'.size _)⟩

set_option linter.unusedSimpArgs false in
set_option maxHeartbeats 1000000 in
theorem implOp_9_3 (w : World) :
    Calls Tryd.prog 18 #[.agg #[.int .i64 9, .int .i64 0, .int .i64 0, .int .i64 0]] w fun e w' => e = .returned (.int .i64 0) ∧ Below w.heap.size w w' := by
  have hc := fun W => fields_moveRows W
  have ho := fun W => opOf_9 0 0 0 W
  have hn : ∀ W, (binOp .neq 27 (.agg #[.int .i64 9, .int .i64 0, .int .i64 0, .int .i64 0]) (.agg #[.int .i64 9, .int .i64 0, .int .i64 0, .int .i64 0])).run Tryd.prog W = .ok (.bool false) W := fun W => by
    rw [neqOp]
    first | rfl | (congr 2; done) | (congr 2; simp_all)
  go_enter Tryd.func18, Tryd.ntmps18
  go_wp2_with fail
  refine (ho _).mono ?_
  rintro e w1 ⟨rfl, b1⟩
  have b1' := ((Below.refl _ w).alloc (Nat.le_refl _) _).trans (b1.mono (by simp))
  obtain ⟨cA, fA⟩ := bcell b1
  have x0 := cA w.heap.size 0 (by simp)
  have x1 := cA w.heap.size 1 (by simp)
  have x2 := cA w.heap.size 2 (by simp)
  have x3 := cA w.heap.size 3 (by simp)
  clear cA fA ho
  simp [go_sem] at x0 x1 x2 x3
  go_wp2_with fail
  refine (hc _).mono ?_
  rintro e w2 ⟨rfl, b2⟩
  have b2' := b1'.trans (b2.mono b1'.size)
  replace x0 := keep_cell b2 x0
  replace x1 := keep_cell b2 x1
  replace x2 := keep_cell b2 x2
  replace x3 := keep_cell b2 x3
  have hl := lt_of_cell x0
  clear hc b1 b1' b2
  go_wp2
  go_ret
  exact ⟨rfl, by repeat (first | with_reducible exact b2' | with_reducible refine Below.drew ?_ | with_reducible refine Below.alloc ?_ b2'.size _ | with_reducible refine Below.setCell ?_ b2'.size _)⟩

set_option linter.unusedSimpArgs false in
set_option maxHeartbeats 1000000 in
theorem implOp_10_0 (a b v : Int) (za : (a != 0) = true) (w : World) :
    Calls Tryd.prog 18 #[.agg #[.int .i64 10, .int .i64 a, .int .i64 b, .int .i64 v]] w fun e w' => e = .returned (.int .i64 1) ∧ Below w.heap.size w w' := by
  have hc := fun W => fields_readAll W
  have ho := fun W => opOf_10 a b v W
  have hn : ∀ W, (binOp .neq 27 (.agg #[.int .i64 10, .int .i64 a, .int .i64 b, .int .i64 v]) (.agg #[.int .i64 10, .int .i64 0, .int .i64 0, .int .i64 0])).run Tryd.prog W = .ok (.bool true) W := fun W => by
    rw [neqOp]
    first | rfl | (congr 2; done) | (congr 2; simp_all)
  clear za
  go_enter Tryd.func18, Tryd.ntmps18
  go_wp2_with fail
  refine (ho _).mono ?_
  rintro e w1 ⟨rfl, b1⟩
  have b1' := ((Below.refl _ w).alloc (Nat.le_refl _) _).trans (b1.mono (by simp))
  obtain ⟨cA, fA⟩ := bcell b1
  have x0 := cA w.heap.size 0 (by simp)
  have x1 := cA w.heap.size 1 (by simp)
  have x2 := cA w.heap.size 2 (by simp)
  have x3 := cA w.heap.size 3 (by simp)
  clear cA fA ho
  simp [go_sem] at x0 x1 x2 x3
  go_wp2_with fail
  refine (hc _).mono ?_
  rintro e w2 ⟨rfl, b2⟩
  have b2' := b1'.trans (b2.mono b1'.size)
  replace x0 := keep_cell b2 x0
  replace x1 := keep_cell b2 x1
  replace x2 := keep_cell b2 x2
  replace x3 := keep_cell b2 x3
  have hl := lt_of_cell x0
  clear hc b1 b1' b2
  go_wp2
  go_ret
  exact ⟨rfl, by repeat (first | with_reducible exact b2' | with_reducible refine Below.drew ?_ | with_reducible refine Below.alloc ?_ b2'.size _ | with_reducible refine Below.setCell ?_ b2'.size _)⟩

set_option linter.unusedSimpArgs false in
set_option maxHeartbeats 1000000 in
theorem implOp_10_1 (b v : Int) (zb : (b != 0) = true) (w : World) :
    Calls Tryd.prog 18 #[.agg #[.int .i64 10, .int .i64 0, .int .i64 b, .int .i64 v]] w fun e w' => e = .returned (.int .i64 1) ∧ Below w.heap.size w w' := by
  have hc := fun W => fields_readAll W
  have ho := fun W => opOf_10 0 b v W
  have hn : ∀ W, (binOp .neq 27 (.agg #[.int .i64 10, .int .i64 0, .int .i64 b, .int .i64 v]) (.agg #[.int .i64 10, .int .i64 0, .int .i64 0, .int .i64 0])).run Tryd.prog W = .ok (.bool true) W := fun W => by
    rw [neqOp]
    first | rfl | (congr 2; done) | (congr 2; simp_all)
  clear zb
  go_enter Tryd.func18, Tryd.ntmps18
  go_wp2_with fail
  refine (ho _).mono ?_
  rintro e w1 ⟨rfl, b1⟩
  have b1' := ((Below.refl _ w).alloc (Nat.le_refl _) _).trans (b1.mono (by simp))
  obtain ⟨cA, fA⟩ := bcell b1
  have x0 := cA w.heap.size 0 (by simp)
  have x1 := cA w.heap.size 1 (by simp)
  have x2 := cA w.heap.size 2 (by simp)
  have x3 := cA w.heap.size 3 (by simp)
  clear cA fA ho
  simp [go_sem] at x0 x1 x2 x3
  go_wp2_with fail
  refine (hc _).mono ?_
  rintro e w2 ⟨rfl, b2⟩
  have b2' := b1'.trans (b2.mono b1'.size)
  replace x0 := keep_cell b2 x0
  replace x1 := keep_cell b2 x1
  replace x2 := keep_cell b2 x2
  replace x3 := keep_cell b2 x3
  have hl := lt_of_cell x0
  clear hc b1 b1' b2
  go_wp2
  go_ret
  exact ⟨rfl, by repeat (first | with_reducible exact b2' | with_reducible refine Below.drew ?_ | with_reducible refine Below.alloc ?_ b2'.size _ | with_reducible refine Below.setCell ?_ b2'.size _)⟩

set_option linter.unusedSimpArgs false in
set_option maxHeartbeats 1000000 in
theorem implOp_10_2 (v : Int) (zv : (v != 0) = true) (w : World) :
    Calls Tryd.prog 18 #[.agg #[.int .i64 10, .int .i64 0, .int .i64 0, .int .i64 v]] w fun e w' => e = .returned (.int .i64 1) ∧ Below w.heap.size w w' := by
  have hc := fun W => fields_readAll W
  have ho := fun W => opOf_10 0 0 v W
  have hn : ∀ W, (binOp .neq 27 (.agg #[.int .i64 10, .int .i64 0, .int .i64 0, .int .i64 v]) (.agg #[.int .i64 10, .int .i64 0, .int .i64 0, .int .i64 0])).run Tryd.prog W = .ok (.bool true) W := fun W => by
    rw [neqOp]
    first | rfl | (congr 2; done) | (congr 2; simp_all)
  clear zv
  go_enter Tryd.func18, Tryd.ntmps18
  go_wp2_with fail
  refine (ho _).mono ?_
  rintro e w1 ⟨rfl, b1⟩
  have b1' := ((Below.refl _ w).alloc (Nat.le_refl _) _).trans (b1.mono (by simp))
  obtain ⟨cA, fA⟩ := bcell b1
  have x0 := cA w.heap.size 0 (by simp)
  have x1 := cA w.heap.size 1 (by simp)
  have x2 := cA w.heap.size 2 (by simp)
  have x3 := cA w.heap.size 3 (by simp)
  clear cA fA ho
  simp [go_sem] at x0 x1 x2 x3
  go_wp2_with fail
  refine (hc _).mono ?_
  rintro e w2 ⟨rfl, b2⟩
  have b2' := b1'.trans (b2.mono b1'.size)
  replace x0 := keep_cell b2 x0
  replace x1 := keep_cell b2 x1
  replace x2 := keep_cell b2 x2
  replace x3 := keep_cell b2 x3
  have hl := lt_of_cell x0
  clear hc b1 b1' b2
  go_wp2
  go_ret
  exact ⟨rfl, by repeat (first | with_reducible exact b2' | with_reducible refine Below.drew ?_ | with_reducible refine Below.alloc ?_ b2'.size _ | with_reducible refine Below.setCell ?_ b2'.size _)⟩

set_option linter.unusedSimpArgs false in
set_option maxHeartbeats 1000000 in
theorem implOp_10_3 (w : World) :
    Calls Tryd.prog 18 #[.agg #[.int .i64 10, .int .i64 0, .int .i64 0, .int .i64 0]] w fun e w' => e = .returned (.int .i64 0) ∧ Below w.heap.size w w' := by
  have hc := fun W => fields_readAll W
  have ho := fun W => opOf_10 0 0 0 W
  have hn : ∀ W, (binOp .neq 27 (.agg #[.int .i64 10, .int .i64 0, .int .i64 0, .int .i64 0]) (.agg #[.int .i64 10, .int .i64 0, .int .i64 0, .int .i64 0])).run Tryd.prog W = .ok (.bool false) W := fun W => by
    rw [neqOp]
    first | rfl | (congr 2; done) | (congr 2; simp_all)
  go_enter Tryd.func18, Tryd.ntmps18
  go_wp2_with fail
  refine (ho _).mono ?_
  rintro e w1 ⟨rfl, b1⟩
  have b1' := ((Below.refl _ w).alloc (Nat.le_refl _) _).trans (b1.mono (by simp))
  obtain ⟨cA, fA⟩ := bcell b1
  have x0 := cA w.heap.size 0 (by simp)
  have x1 := cA w.heap.size 1 (by simp)
  have x2 := cA w.heap.size 2 (by simp)
  have x3 := cA w.heap.size 3 (by simp)
  clear cA fA ho
  simp [go_sem] at x0 x1 x2 x3
  go_wp2_with fail
  refine (hc _).mono ?_
  rintro e w2 ⟨rfl, b2⟩
  have b2' := b1'.trans (b2.mono b1'.size)
  replace x0 := keep_cell b2 x0
  replace x1 := keep_cell b2 x1
  replace x2 := keep_cell b2 x2
  replace x3 := keep_cell b2 x3
  have hl := lt_of_cell x0
  clear hc b1 b1' b2
  go_wp2
  go_ret
  exact ⟨rfl, by repeat (first | with_reducible exact b2' | with_reducible refine Below.drew ?_ | with_reducible refine Below.alloc ?_ b2'.size _ | with_reducible refine Below.setCell ?_ b2'.size _)⟩

theorem implOp_1 (a b v : Int) (w : World) :
    Calls Tryd.prog 18 #[.agg #[.int .i64 1, .int .i64 a, .int .i64 b, .int .i64 v]] w fun e w' => e = .returned (.int .i64 (Ch.opFault 1 a b v)) ∧ Below w.heap.size w w' := by
  have ku : ∀ c : Int, Ch.opFault 1 a b v = c → (Calls Tryd.prog 18 #[.agg #[.int .i64 1, .int .i64 a, .int .i64 b, .int .i64 v]] w fun e w' => e = .returned (.int .i64 c) ∧ Below w.heap.size w w') → (Calls Tryd.prog 18 #[.agg #[.int .i64 1, .int .i64 a, .int .i64 b, .int .i64 v]] w fun e w' => e = .returned (.int .i64 (Ch.opFault 1 a b v)) ∧ Below w.heap.size w w') := fun c hc h => by rw [hc]; exact h
  cases ha : Ch.inB a 0 99
  · exact ku 3 (by simp [Ch.opFault, *]) (implOp_1_0 a b v ha w)
  by_cases qb : b = 0
  rotate_left
  · have zb : (b != 0) = true := by simpa using qb
    exact ku 1 (by simp [Ch.opFault, *]) (implOp_1_1 a b v ha zb w)
  subst qb
  by_cases qv : v = 0
  rotate_left
  · have zv : (v != 0) = true := by simpa using qv
    exact ku 1 (by simp [Ch.opFault, *]) (implOp_1_2 a v ha zv w)
  subst qv
  exact ku 0 (by simp [Ch.opFault, *]) (implOp_1_3 a ha w)

theorem implOp_2 (a b v : Int) (w : World) :
    Calls Tryd.prog 18 #[.agg #[.int .i64 2, .int .i64 a, .int .i64 b, .int .i64 v]] w fun e w' => e = .returned (.int .i64 (Ch.opFault 2 a b v)) ∧ Below w.heap.size w w' := by
  have ku : ∀ c : Int, Ch.opFault 2 a b v = c → (Calls Tryd.prog 18 #[.agg #[.int .i64 2, .int .i64 a, .int .i64 b, .int .i64 v]] w fun e w' => e = .returned (.int .i64 c) ∧ Below w.heap.size w w') → (Calls Tryd.prog 18 #[.agg #[.int .i64 2, .int .i64 a, .int .i64 b, .int .i64 v]] w fun e w' => e = .returned (.int .i64 (Ch.opFault 2 a b v)) ∧ Below w.heap.size w w') := fun c hc h => by rw [hc]; exact h
  cases ha : Ch.inB a 0 99
  · exact ku 3 (by simp [Ch.opFault, *]) (implOp_2_0 a b v ha w)
  cases hv : Ch.inB v 0 9999
  · exact ku 3 (by simp [Ch.opFault, *]) (implOp_2_1 a b v ha hv w)
  by_cases qb : b = 0
  rotate_left
  · have zb : (b != 0) = true := by simpa using qb
    exact ku 1 (by simp [Ch.opFault, *]) (implOp_2_2 a b v ha hv zb w)
  subst qb
  exact ku 0 (by simp [Ch.opFault, *]) (implOp_2_3 a v ha hv w)

theorem implOp_3 (a b v : Int) (w : World) :
    Calls Tryd.prog 18 #[.agg #[.int .i64 3, .int .i64 a, .int .i64 b, .int .i64 v]] w fun e w' => e = .returned (.int .i64 (Ch.opFault 3 a b v)) ∧ Below w.heap.size w w' := by
  have ku : ∀ c : Int, Ch.opFault 3 a b v = c → (Calls Tryd.prog 18 #[.agg #[.int .i64 3, .int .i64 a, .int .i64 b, .int .i64 v]] w fun e w' => e = .returned (.int .i64 c) ∧ Below w.heap.size w w') → (Calls Tryd.prog 18 #[.agg #[.int .i64 3, .int .i64 a, .int .i64 b, .int .i64 v]] w fun e w' => e = .returned (.int .i64 (Ch.opFault 3 a b v)) ∧ Below w.heap.size w w') := fun c hc h => by rw [hc]; exact h
  cases ha : Ch.inB a 0 99
  · exact ku 3 (by simp [Ch.opFault, *]) (implOp_3_0 a b v ha w)
  by_cases qb : b = 0
  rotate_left
  · have zb : (b != 0) = true := by simpa using qb
    exact ku 1 (by simp [Ch.opFault, *]) (implOp_3_1 a b v ha zb w)
  subst qb
  by_cases qv : v = 0
  rotate_left
  · have zv : (v != 0) = true := by simpa using qv
    exact ku 1 (by simp [Ch.opFault, *]) (implOp_3_2 a v ha zv w)
  subst qv
  exact ku 0 (by simp [Ch.opFault, *]) (implOp_3_3 a ha w)

theorem implOp_4 (a b v : Int) (w : World) :
    Calls Tryd.prog 18 #[.agg #[.int .i64 4, .int .i64 a, .int .i64 b, .int .i64 v]] w fun e w' => e = .returned (.int .i64 (Ch.opFault 4 a b v)) ∧ Below w.heap.size w w' := by
  have ku : ∀ c : Int, Ch.opFault 4 a b v = c → (Calls Tryd.prog 18 #[.agg #[.int .i64 4, .int .i64 a, .int .i64 b, .int .i64 v]] w fun e w' => e = .returned (.int .i64 c) ∧ Below w.heap.size w w') → (Calls Tryd.prog 18 #[.agg #[.int .i64 4, .int .i64 a, .int .i64 b, .int .i64 v]] w fun e w' => e = .returned (.int .i64 (Ch.opFault 4 a b v)) ∧ Below w.heap.size w w') := fun c hc h => by rw [hc]; exact h
  cases ha : Ch.inB a 0 99
  · exact ku 3 (by simp [Ch.opFault, *]) (implOp_4_0 a b v ha w)
  cases hb : Ch.inB b 0 99
  · exact ku 3 (by simp [Ch.opFault, *]) (implOp_4_1 a b v ha hb w)
  by_cases qv : v = 0
  rotate_left
  · have zv : (v != 0) = true := by simpa using qv
    exact ku 1 (by simp [Ch.opFault, *]) (implOp_4_2 a b v ha hb zv w)
  subst qv
  exact ku 0 (by simp [Ch.opFault, *]) (implOp_4_3 a b ha hb w)

theorem implOp_5 (a b v : Int) (w : World) :
    Calls Tryd.prog 18 #[.agg #[.int .i64 5, .int .i64 a, .int .i64 b, .int .i64 v]] w fun e w' => e = .returned (.int .i64 (Ch.opFault 5 a b v)) ∧ Below w.heap.size w w' := by
  have ku : ∀ c : Int, Ch.opFault 5 a b v = c → (Calls Tryd.prog 18 #[.agg #[.int .i64 5, .int .i64 a, .int .i64 b, .int .i64 v]] w fun e w' => e = .returned (.int .i64 c) ∧ Below w.heap.size w w') → (Calls Tryd.prog 18 #[.agg #[.int .i64 5, .int .i64 a, .int .i64 b, .int .i64 v]] w fun e w' => e = .returned (.int .i64 (Ch.opFault 5 a b v)) ∧ Below w.heap.size w w') := fun c hc h => by rw [hc]; exact h
  cases hv : Ch.inB v 0 9999
  · exact ku 3 (by simp [Ch.opFault, *]) (implOp_5_0 a b v hv w)
  by_cases qa : a = 0
  rotate_left
  · have za : (a != 0) = true := by simpa using qa
    exact ku 1 (by simp [Ch.opFault, *]) (implOp_5_1 a b v hv za w)
  subst qa
  by_cases qb : b = 0
  rotate_left
  · have zb : (b != 0) = true := by simpa using qb
    exact ku 1 (by simp [Ch.opFault, *]) (implOp_5_2 b v hv zb w)
  subst qb
  exact ku 0 (by simp [Ch.opFault, *]) (implOp_5_3 v hv w)

theorem implOp_6 (a b v : Int) (w : World) :
    Calls Tryd.prog 18 #[.agg #[.int .i64 6, .int .i64 a, .int .i64 b, .int .i64 v]] w fun e w' => e = .returned (.int .i64 (Ch.opFault 6 a b v)) ∧ Below w.heap.size w w' := by
  have ku : ∀ c : Int, Ch.opFault 6 a b v = c → (Calls Tryd.prog 18 #[.agg #[.int .i64 6, .int .i64 a, .int .i64 b, .int .i64 v]] w fun e w' => e = .returned (.int .i64 c) ∧ Below w.heap.size w w') → (Calls Tryd.prog 18 #[.agg #[.int .i64 6, .int .i64 a, .int .i64 b, .int .i64 v]] w fun e w' => e = .returned (.int .i64 (Ch.opFault 6 a b v)) ∧ Below w.heap.size w w') := fun c hc h => by rw [hc]; exact h
  by_cases qa : a = 0
  rotate_left
  · have za : (a != 0) = true := by simpa using qa
    exact ku 1 (by simp [Ch.opFault, *]) (implOp_6_0 a b v za w)
  subst qa
  by_cases qb : b = 0
  rotate_left
  · have zb : (b != 0) = true := by simpa using qb
    exact ku 1 (by simp [Ch.opFault, *]) (implOp_6_1 b v zb w)
  subst qb
  by_cases qv : v = 0
  rotate_left
  · have zv : (v != 0) = true := by simpa using qv
    exact ku 1 (by simp [Ch.opFault, *]) (implOp_6_2 v zv w)
  subst qv
  exact ku 0 (by simp [Ch.opFault, *]) (implOp_6_3  w)

theorem implOp_7 (a b v : Int) (w : World) :
    Calls Tryd.prog 18 #[.agg #[.int .i64 7, .int .i64 a, .int .i64 b, .int .i64 v]] w fun e w' => e = .returned (.int .i64 (Ch.opFault 7 a b v)) ∧ Below w.heap.size w w' := by
  have ku : ∀ c : Int, Ch.opFault 7 a b v = c → (Calls Tryd.prog 18 #[.agg #[.int .i64 7, .int .i64 a, .int .i64 b, .int .i64 v]] w fun e w' => e = .returned (.int .i64 c) ∧ Below w.heap.size w w') → (Calls Tryd.prog 18 #[.agg #[.int .i64 7, .int .i64 a, .int .i64 b, .int .i64 v]] w fun e w' => e = .returned (.int .i64 (Ch.opFault 7 a b v)) ∧ Below w.heap.size w w') := fun c hc h => by rw [hc]; exact h
  by_cases qa : a = 0
  rotate_left
  · have za : (a != 0) = true := by simpa using qa
    exact ku 1 (by simp [Ch.opFault, *]) (implOp_7_0 a b v za w)
  subst qa
  by_cases qb : b = 0
  rotate_left
  · have zb : (b != 0) = true := by simpa using qb
    exact ku 1 (by simp [Ch.opFault, *]) (implOp_7_1 b v zb w)
  subst qb
  by_cases qv : v = 0
  rotate_left
  · have zv : (v != 0) = true := by simpa using qv
    exact ku 1 (by simp [Ch.opFault, *]) (implOp_7_2 v zv w)
  subst qv
  exact ku 0 (by simp [Ch.opFault, *]) (implOp_7_3  w)

theorem implOp_8 (a b v : Int) (w : World) :
    Calls Tryd.prog 18 #[.agg #[.int .i64 8, .int .i64 a, .int .i64 b, .int .i64 v]] w fun e w' => e = .returned (.int .i64 (Ch.opFault 8 a b v)) ∧ Below w.heap.size w w' := by
  have ku : ∀ c : Int, Ch.opFault 8 a b v = c → (Calls Tryd.prog 18 #[.agg #[.int .i64 8, .int .i64 a, .int .i64 b, .int .i64 v]] w fun e w' => e = .returned (.int .i64 c) ∧ Below w.heap.size w w') → (Calls Tryd.prog 18 #[.agg #[.int .i64 8, .int .i64 a, .int .i64 b, .int .i64 v]] w fun e w' => e = .returned (.int .i64 (Ch.opFault 8 a b v)) ∧ Below w.heap.size w w') := fun c hc h => by rw [hc]; exact h
  cases ha : Ch.inB a 0 99
  · exact ku 3 (by simp [Ch.opFault, *]) (implOp_8_0 a b v ha w)
  by_cases qb : b = 0
  rotate_left
  · have zb : (b != 0) = true := by simpa using qb
    exact ku 1 (by simp [Ch.opFault, *]) (implOp_8_1 a b v ha zb w)
  subst qb
  by_cases qv : v = 0
  rotate_left
  · have zv : (v != 0) = true := by simpa using qv
    exact ku 1 (by simp [Ch.opFault, *]) (implOp_8_2 a v ha zv w)
  subst qv
  exact ku 0 (by simp [Ch.opFault, *]) (implOp_8_3 a ha w)

theorem implOp_9 (a b v : Int) (w : World) :
    Calls Tryd.prog 18 #[.agg #[.int .i64 9, .int .i64 a, .int .i64 b, .int .i64 v]] w fun e w' => e = .returned (.int .i64 (Ch.opFault 9 a b v)) ∧ Below w.heap.size w w' := by
  have ku : ∀ c : Int, Ch.opFault 9 a b v = c → (Calls Tryd.prog 18 #[.agg #[.int .i64 9, .int .i64 a, .int .i64 b, .int .i64 v]] w fun e w' => e = .returned (.int .i64 c) ∧ Below w.heap.size w w') → (Calls Tryd.prog 18 #[.agg #[.int .i64 9, .int .i64 a, .int .i64 b, .int .i64 v]] w fun e w' => e = .returned (.int .i64 (Ch.opFault 9 a b v)) ∧ Below w.heap.size w w') := fun c hc h => by rw [hc]; exact h
  by_cases qa : a = 0
  rotate_left
  · have za : (a != 0) = true := by simpa using qa
    exact ku 1 (by simp [Ch.opFault, *]) (implOp_9_0 a b v za w)
  subst qa
  by_cases qb : b = 0
  rotate_left
  · have zb : (b != 0) = true := by simpa using qb
    exact ku 1 (by simp [Ch.opFault, *]) (implOp_9_1 b v zb w)
  subst qb
  by_cases qv : v = 0
  rotate_left
  · have zv : (v != 0) = true := by simpa using qv
    exact ku 1 (by simp [Ch.opFault, *]) (implOp_9_2 v zv w)
  subst qv
  exact ku 0 (by simp [Ch.opFault, *]) (implOp_9_3  w)

theorem implOp_10 (a b v : Int) (w : World) :
    Calls Tryd.prog 18 #[.agg #[.int .i64 10, .int .i64 a, .int .i64 b, .int .i64 v]] w fun e w' => e = .returned (.int .i64 (Ch.opFault 10 a b v)) ∧ Below w.heap.size w w' := by
  have ku : ∀ c : Int, Ch.opFault 10 a b v = c → (Calls Tryd.prog 18 #[.agg #[.int .i64 10, .int .i64 a, .int .i64 b, .int .i64 v]] w fun e w' => e = .returned (.int .i64 c) ∧ Below w.heap.size w w') → (Calls Tryd.prog 18 #[.agg #[.int .i64 10, .int .i64 a, .int .i64 b, .int .i64 v]] w fun e w' => e = .returned (.int .i64 (Ch.opFault 10 a b v)) ∧ Below w.heap.size w w') := fun c hc h => by rw [hc]; exact h
  by_cases qa : a = 0
  rotate_left
  · have za : (a != 0) = true := by simpa using qa
    exact ku 1 (by simp [Ch.opFault, *]) (implOp_10_0 a b v za w)
  subst qa
  by_cases qb : b = 0
  rotate_left
  · have zb : (b != 0) = true := by simpa using qb
    exact ku 1 (by simp [Ch.opFault, *]) (implOp_10_1 b v zb w)
  subst qb
  by_cases qv : v = 0
  rotate_left
  · have zv : (v != 0) = true := by simpa using qv
    exact ku 1 (by simp [Ch.opFault, *]) (implOp_10_2 v zv w)
  subst qv
  exact ku 0 (by simp [Ch.opFault, *]) (implOp_10_3  w)

theorem implOp_no (k a b v : Int) (hk : Ch.inB k 1 10 = false) (w : World) :
    Calls Tryd.prog 18 #[.agg #[.int .i64 k, .int .i64 a, .int .i64 b, .int .i64 v]] w fun e w' => e = .returned (.int .i64 1) ∧ Below w.heap.size w w' := by
  have ho := fun W => opOf_no k a b v hk W
  clear hk
  go_enter Tryd.func18, Tryd.ntmps18
  go_wp2_with fail
  refine (ho _).mono ?_
  rintro e w1 ⟨rfl, b1⟩
  have b1' := ((Below.refl _ w).alloc (Nat.le_refl _) _).trans (b1.mono (by simp))
  go_wp2
  go_ret
  exact ⟨rfl, b1'⟩

theorem implOp_any (k a b v : Int) (w : World) :
    Calls Tryd.prog 18 #[.agg #[.int .i64 k, .int .i64 a, .int .i64 b, .int .i64 v]] w fun e w' => e = .returned (.int .i64 (Ch.opFault k a b v)) ∧ Below w.heap.size w w' := by
  rcases Ch.op_cases k with rfl | rfl | rfl | rfl | rfl | rfl | rfl | rfl | rfl | rfl | hk
  · exact implOp_1 a b v w
  · exact implOp_2 a b v w
  · exact implOp_3 a b v w
  · exact implOp_4 a b v w
  · exact implOp_5 a b v w
  · exact implOp_6 a b v w
  · exact implOp_7 a b v w
  · exact implOp_8 a b v w
  · exact implOp_9 a b v w
  · exact implOp_10 a b v w
  · rw [Ch.op_none hk]; exact implOp_no k a b v hk w

end Go.Proofs.YtalhmogaogaekaaDoor
