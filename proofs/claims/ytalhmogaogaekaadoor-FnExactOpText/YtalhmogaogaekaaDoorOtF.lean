/- The forms of operations, of the program. -/
import Derived.Test.YtalhmogaogaekaaDoorOtD
import Derived.Great.Walk
import Derived.Deep.WholeRow
import Derived.Deep.DeepCutAuto
namespace Go.Proofs.YtalhmogaogaekaaDoor
open Go.RowKit Go.Great

def formZ : Array Value := #[.string ⟨#[]⟩, .slice none 0 0, .string ⟨#[]⟩, .slice none 0 0, .string ⟨#[]⟩, .slice none 0 0, .string ⟨#[]⟩, .slice none 0 0, .string ⟨#[]⟩, .slice none 0 0, .string ⟨#[]⟩, .slice none 0 0, .string ⟨#[]⟩, .slice none 0 0, .string ⟨#[]⟩, .slice none 0 0, .string ⟨#[]⟩, .slice none 0 0, .string ⟨#[]⟩, .slice none 0 0, .string ⟨#[]⟩, .slice none 0 0]
theorem formZ_def : formZ = #[.string ⟨#[]⟩, .slice none 0 0, .string ⟨#[]⟩, .slice none 0 0, .string ⟨#[]⟩, .slice none 0 0, .string ⟨#[]⟩, .slice none 0 0, .string ⟨#[]⟩, .slice none 0 0, .string ⟨#[]⟩, .slice none 0 0, .string ⟨#[]⟩, .slice none 0 0, .string ⟨#[]⟩, .slice none 0 0, .string ⟨#[]⟩, .slice none 0 0, .string ⟨#[]⟩, .slice none 0 0, .string ⟨#[]⟩, .slice none 0 0] := rfl
def formCells (h : Nat) : Array Value := #[.string ⟨#[]⟩, .slice none 0 0, .string (Ch.opName 1), .slice (some ⟨h + 1, 0, none⟩) 1 1, .string (Ch.opName 2), .slice (some ⟨h + 2, 0, none⟩) 2 2, .string (Ch.opName 3), .slice (some ⟨h + 3, 0, none⟩) 1 1, .string (Ch.opName 4), .slice (some ⟨h + 4, 0, none⟩) 2 2, .string (Ch.opName 5), .slice (some ⟨h + 5, 0, none⟩) 1 1, .string (Ch.opName 6), .slice none 0 0, .string (Ch.opName 7), .slice none 0 0, .string (Ch.opName 8), .slice (some ⟨h + 6, 0, none⟩) 1 1, .string (Ch.opName 9), .slice none 0 0, .string (Ch.opName 10), .slice none 0 0]

/-- The fields of each form lie in six blocks. -/
def FormAt (W : World) (h : Nat) : Prop := W.heap[h + 1]? = some (.cells #[.int .i64 0] 49 (0, 0)) ∧ W.heap[h + 2]? = some (.cells #[.int .i64 0, .int .i64 2] 49 (0, 0)) ∧ W.heap[h + 3]? = some (.cells #[.int .i64 0] 49 (0, 0)) ∧ W.heap[h + 4]? = some (.cells #[.int .i64 0, .int .i64 1] 49 (0, 0)) ∧ W.heap[h + 5]? = some (.cells #[.int .i64 2] 49 (0, 0)) ∧ W.heap[h + 6]? = some (.cells #[.int .i64 0] 49 (0, 0))
theorem FormAt.below {W V : World} {h : Nat} (H : FormAt W h) (hb : Below W.heap.size W V) : FormAt V h :=
  ⟨block_belowW hb H.1, block_belowW hb H.2.1, block_belowW hb H.2.2.1, block_belowW hb H.2.2.2.1, block_belowW hb H.2.2.2.2.1, block_belowW hb H.2.2.2.2.2⟩

set_option linter.unusedSimpArgs false in
set_option maxRecDepth 20000 in
set_option maxHeartbeats 1000000 in
theorem forms_any (w : World) :
    Calls Tryd.prog 19 #[] w fun e w' => e = .returned (.agg (formCells w.heap.size)) ∧ FormAt w' w.heap.size ∧ Below w.heap.size w w' := by
  go_enter Tryd.func19, Tryd.ntmps19
  go_upto_region 1 with fail
  refine wp_region_lit ?_
  refine wpList_buildSliceTo rfl _ 49 _ _ rfl (w.heap.size + 1) (by simp) _ rfl Tryd.underlying43 #[.int .i64 0] (by kernel_rfl) ?_
  simp only [Act.put, List.setIfInBounds_toArray, List.set_cons_zero, List.set_cons_succ]
  refine wpList_buildTo rfl _ _ rfl _ rfl #[.string (Ch.opName 1), .slice (some ⟨w.heap.size + 1, 0, none⟩) 1 1] (by kernel_rfl) ?_
  simp only [Act.put, List.setIfInBounds_toArray, List.set_cons_zero, List.set_cons_succ]
  refine wpList_buildSliceTo rfl _ 49 _ _ rfl (w.heap.size + 2) (by simp) _ rfl Tryd.underlying43 #[.int .i64 0, .int .i64 2] (by kernel_rfl) ?_
  simp only [Act.put, List.setIfInBounds_toArray, List.set_cons_zero, List.set_cons_succ]
  refine wpList_buildTo rfl _ _ rfl _ rfl #[.string (Ch.opName 2), .slice (some ⟨w.heap.size + 2, 0, none⟩) 2 2] (by kernel_rfl) ?_
  simp only [Act.put, List.setIfInBounds_toArray, List.set_cons_zero, List.set_cons_succ]
  refine wpList_buildSliceTo rfl _ 49 _ _ rfl (w.heap.size + 3) (by simp) _ rfl Tryd.underlying43 #[.int .i64 0] (by kernel_rfl) ?_
  simp only [Act.put, List.setIfInBounds_toArray, List.set_cons_zero, List.set_cons_succ]
  refine wpList_buildTo rfl _ _ rfl _ rfl #[.string (Ch.opName 3), .slice (some ⟨w.heap.size + 3, 0, none⟩) 1 1] (by kernel_rfl) ?_
  simp only [Act.put, List.setIfInBounds_toArray, List.set_cons_zero, List.set_cons_succ]
  refine wpList_buildSliceTo rfl _ 49 _ _ rfl (w.heap.size + 4) (by simp) _ rfl Tryd.underlying43 #[.int .i64 0, .int .i64 1] (by kernel_rfl) ?_
  simp only [Act.put, List.setIfInBounds_toArray, List.set_cons_zero, List.set_cons_succ]
  refine wpList_buildTo rfl _ _ rfl _ rfl #[.string (Ch.opName 4), .slice (some ⟨w.heap.size + 4, 0, none⟩) 2 2] (by kernel_rfl) ?_
  simp only [Act.put, List.setIfInBounds_toArray, List.set_cons_zero, List.set_cons_succ]
  refine wpList_buildSliceTo rfl _ 49 _ _ rfl (w.heap.size + 5) (by simp) _ rfl Tryd.underlying43 #[.int .i64 2] (by kernel_rfl) ?_
  simp only [Act.put, List.setIfInBounds_toArray, List.set_cons_zero, List.set_cons_succ]
  refine wpList_buildTo rfl _ _ rfl _ rfl #[.string (Ch.opName 5), .slice (some ⟨w.heap.size + 5, 0, none⟩) 1 1] (by kernel_rfl) ?_
  simp only [Act.put, List.setIfInBounds_toArray, List.set_cons_zero, List.set_cons_succ]
  refine wpList_buildTo rfl _ _ rfl _ rfl #[.string (Ch.opName 6), .slice none 0 0] (by kernel_rfl) ?_
  simp only [Act.put, List.setIfInBounds_toArray, List.set_cons_zero, List.set_cons_succ]
  refine wpList_buildTo rfl _ _ rfl _ rfl #[.string (Ch.opName 7), .slice none 0 0] (by kernel_rfl) ?_
  simp only [Act.put, List.setIfInBounds_toArray, List.set_cons_zero, List.set_cons_succ]
  refine wpList_buildSliceTo rfl _ 49 _ _ rfl (w.heap.size + 6) (by simp) _ rfl Tryd.underlying43 #[.int .i64 0] (by kernel_rfl) ?_
  simp only [Act.put, List.setIfInBounds_toArray, List.set_cons_zero, List.set_cons_succ]
  refine wpList_buildTo rfl _ _ rfl _ rfl #[.string (Ch.opName 8), .slice (some ⟨w.heap.size + 6, 0, none⟩) 1 1] (by kernel_rfl) ?_
  simp only [Act.put, List.setIfInBounds_toArray, List.set_cons_zero, List.set_cons_succ]
  refine wpList_buildTo rfl _ _ rfl _ rfl #[.string (Ch.opName 9), .slice none 0 0] (by kernel_rfl) ?_
  simp only [Act.put, List.setIfInBounds_toArray, List.set_cons_zero, List.set_cons_succ]
  refine wpList_buildTo rfl _ _ rfl _ rfl #[.string (Ch.opName 10), .slice none 0 0] (by kernel_rfl) ?_
  simp only [Act.put, List.setIfInBounds_toArray, List.set_cons_zero, List.set_cons_succ]
  refine wpList_buildTo rfl _ _ rfl _ rfl (formCells w.heap.size) (by kernel_rfl) ?_
  simp only [Act.put, List.setIfInBounds_toArray, List.set_cons_zero, List.set_cons_succ]
  have hZ := heap_alloc_new w (.cells formZ 46)
  replace hZ := (heap_old' (o := .cells #[.int .i64 0] 49) (by simp <;> omega)).trans hZ
  replace hZ := (heap_old' (o := .cells #[.int .i64 0, .int .i64 2] 49) (by simp <;> omega)).trans hZ
  replace hZ := (heap_old' (o := .cells #[.int .i64 0] 49) (by simp <;> omega)).trans hZ
  replace hZ := (heap_old' (o := .cells #[.int .i64 0, .int .i64 1] 49) (by simp <;> omega)).trans hZ
  replace hZ := (heap_old' (o := .cells #[.int .i64 2] 49) (by simp <;> omega)).trans hZ
  replace hZ := (heap_old' (o := .cells #[.int .i64 0] 49) (by simp <;> omega)).trans hZ
  refine wpList_store_rowTo rfl _ _ _ rfl rfl w.heap.size (formCells w.heap.size) rfl rfl 46 _ hZ (by kernel_rfl) (by kernel_rfl) (by kernel_rfl) ?_
  have F0 := heap_alloc_new (w.alloc (.cells formZ 46)) (.cells #[.int .i64 0] 49)
  rw [show (w.alloc (.cells formZ 46)).heap.size = w.heap.size + 1 by simp] at F0
  replace F0 := (heap_old' (w := ((w.alloc (.cells formZ 46)).alloc (.cells #[.int .i64 0] 49))) (o := .cells #[.int .i64 0, .int .i64 2] 49) (by simp <;> omega)).trans F0
  replace F0 := (heap_old' (w := (((w.alloc (.cells formZ 46)).alloc (.cells #[.int .i64 0] 49)).alloc (.cells #[.int .i64 0, .int .i64 2] 49))) (o := .cells #[.int .i64 0] 49) (by simp <;> omega)).trans F0
  replace F0 := (heap_old' (w := ((((w.alloc (.cells formZ 46)).alloc (.cells #[.int .i64 0] 49)).alloc (.cells #[.int .i64 0, .int .i64 2] 49)).alloc (.cells #[.int .i64 0] 49))) (o := .cells #[.int .i64 0, .int .i64 1] 49) (by simp <;> omega)).trans F0
  replace F0 := (heap_old' (w := (((((w.alloc (.cells formZ 46)).alloc (.cells #[.int .i64 0] 49)).alloc (.cells #[.int .i64 0, .int .i64 2] 49)).alloc (.cells #[.int .i64 0] 49)).alloc (.cells #[.int .i64 0, .int .i64 1] 49))) (o := .cells #[.int .i64 2] 49) (by simp <;> omega)).trans F0
  replace F0 := (heap_old' (w := ((((((w.alloc (.cells formZ 46)).alloc (.cells #[.int .i64 0] 49)).alloc (.cells #[.int .i64 0, .int .i64 2] 49)).alloc (.cells #[.int .i64 0] 49)).alloc (.cells #[.int .i64 0, .int .i64 1] 49)).alloc (.cells #[.int .i64 2] 49))) (o := .cells #[.int .i64 0] 49) (by simp <;> omega)).trans F0
  replace F0 := (setRow_other (((((((w.alloc (.cells formZ 46)).alloc (.cells #[.int .i64 0] 49)).alloc (.cells #[.int .i64 0, .int .i64 2] 49)).alloc (.cells #[.int .i64 0] 49)).alloc (.cells #[.int .i64 0, .int .i64 1] 49)).alloc (.cells #[.int .i64 2] 49)).alloc (.cells #[.int .i64 0] 49)) w.heap.size (w.heap.size + 1) (formCells w.heap.size) (by omega)).trans F0
  have F1 := heap_alloc_new ((w.alloc (.cells formZ 46)).alloc (.cells #[.int .i64 0] 49)) (.cells #[.int .i64 0, .int .i64 2] 49)
  rw [show ((w.alloc (.cells formZ 46)).alloc (.cells #[.int .i64 0] 49)).heap.size = w.heap.size + 2 by simp] at F1
  replace F1 := (heap_old' (w := (((w.alloc (.cells formZ 46)).alloc (.cells #[.int .i64 0] 49)).alloc (.cells #[.int .i64 0, .int .i64 2] 49))) (o := .cells #[.int .i64 0] 49) (by simp <;> omega)).trans F1
  replace F1 := (heap_old' (w := ((((w.alloc (.cells formZ 46)).alloc (.cells #[.int .i64 0] 49)).alloc (.cells #[.int .i64 0, .int .i64 2] 49)).alloc (.cells #[.int .i64 0] 49))) (o := .cells #[.int .i64 0, .int .i64 1] 49) (by simp <;> omega)).trans F1
  replace F1 := (heap_old' (w := (((((w.alloc (.cells formZ 46)).alloc (.cells #[.int .i64 0] 49)).alloc (.cells #[.int .i64 0, .int .i64 2] 49)).alloc (.cells #[.int .i64 0] 49)).alloc (.cells #[.int .i64 0, .int .i64 1] 49))) (o := .cells #[.int .i64 2] 49) (by simp <;> omega)).trans F1
  replace F1 := (heap_old' (w := ((((((w.alloc (.cells formZ 46)).alloc (.cells #[.int .i64 0] 49)).alloc (.cells #[.int .i64 0, .int .i64 2] 49)).alloc (.cells #[.int .i64 0] 49)).alloc (.cells #[.int .i64 0, .int .i64 1] 49)).alloc (.cells #[.int .i64 2] 49))) (o := .cells #[.int .i64 0] 49) (by simp <;> omega)).trans F1
  replace F1 := (setRow_other (((((((w.alloc (.cells formZ 46)).alloc (.cells #[.int .i64 0] 49)).alloc (.cells #[.int .i64 0, .int .i64 2] 49)).alloc (.cells #[.int .i64 0] 49)).alloc (.cells #[.int .i64 0, .int .i64 1] 49)).alloc (.cells #[.int .i64 2] 49)).alloc (.cells #[.int .i64 0] 49)) w.heap.size (w.heap.size + 2) (formCells w.heap.size) (by omega)).trans F1
  have F2 := heap_alloc_new (((w.alloc (.cells formZ 46)).alloc (.cells #[.int .i64 0] 49)).alloc (.cells #[.int .i64 0, .int .i64 2] 49)) (.cells #[.int .i64 0] 49)
  rw [show (((w.alloc (.cells formZ 46)).alloc (.cells #[.int .i64 0] 49)).alloc (.cells #[.int .i64 0, .int .i64 2] 49)).heap.size = w.heap.size + 3 by simp] at F2
  replace F2 := (heap_old' (w := ((((w.alloc (.cells formZ 46)).alloc (.cells #[.int .i64 0] 49)).alloc (.cells #[.int .i64 0, .int .i64 2] 49)).alloc (.cells #[.int .i64 0] 49))) (o := .cells #[.int .i64 0, .int .i64 1] 49) (by simp <;> omega)).trans F2
  replace F2 := (heap_old' (w := (((((w.alloc (.cells formZ 46)).alloc (.cells #[.int .i64 0] 49)).alloc (.cells #[.int .i64 0, .int .i64 2] 49)).alloc (.cells #[.int .i64 0] 49)).alloc (.cells #[.int .i64 0, .int .i64 1] 49))) (o := .cells #[.int .i64 2] 49) (by simp <;> omega)).trans F2
  replace F2 := (heap_old' (w := ((((((w.alloc (.cells formZ 46)).alloc (.cells #[.int .i64 0] 49)).alloc (.cells #[.int .i64 0, .int .i64 2] 49)).alloc (.cells #[.int .i64 0] 49)).alloc (.cells #[.int .i64 0, .int .i64 1] 49)).alloc (.cells #[.int .i64 2] 49))) (o := .cells #[.int .i64 0] 49) (by simp <;> omega)).trans F2
  replace F2 := (setRow_other (((((((w.alloc (.cells formZ 46)).alloc (.cells #[.int .i64 0] 49)).alloc (.cells #[.int .i64 0, .int .i64 2] 49)).alloc (.cells #[.int .i64 0] 49)).alloc (.cells #[.int .i64 0, .int .i64 1] 49)).alloc (.cells #[.int .i64 2] 49)).alloc (.cells #[.int .i64 0] 49)) w.heap.size (w.heap.size + 3) (formCells w.heap.size) (by omega)).trans F2
  have F3 := heap_alloc_new ((((w.alloc (.cells formZ 46)).alloc (.cells #[.int .i64 0] 49)).alloc (.cells #[.int .i64 0, .int .i64 2] 49)).alloc (.cells #[.int .i64 0] 49)) (.cells #[.int .i64 0, .int .i64 1] 49)
  rw [show ((((w.alloc (.cells formZ 46)).alloc (.cells #[.int .i64 0] 49)).alloc (.cells #[.int .i64 0, .int .i64 2] 49)).alloc (.cells #[.int .i64 0] 49)).heap.size = w.heap.size + 4 by simp] at F3
  replace F3 := (heap_old' (w := (((((w.alloc (.cells formZ 46)).alloc (.cells #[.int .i64 0] 49)).alloc (.cells #[.int .i64 0, .int .i64 2] 49)).alloc (.cells #[.int .i64 0] 49)).alloc (.cells #[.int .i64 0, .int .i64 1] 49))) (o := .cells #[.int .i64 2] 49) (by simp <;> omega)).trans F3
  replace F3 := (heap_old' (w := ((((((w.alloc (.cells formZ 46)).alloc (.cells #[.int .i64 0] 49)).alloc (.cells #[.int .i64 0, .int .i64 2] 49)).alloc (.cells #[.int .i64 0] 49)).alloc (.cells #[.int .i64 0, .int .i64 1] 49)).alloc (.cells #[.int .i64 2] 49))) (o := .cells #[.int .i64 0] 49) (by simp <;> omega)).trans F3
  replace F3 := (setRow_other (((((((w.alloc (.cells formZ 46)).alloc (.cells #[.int .i64 0] 49)).alloc (.cells #[.int .i64 0, .int .i64 2] 49)).alloc (.cells #[.int .i64 0] 49)).alloc (.cells #[.int .i64 0, .int .i64 1] 49)).alloc (.cells #[.int .i64 2] 49)).alloc (.cells #[.int .i64 0] 49)) w.heap.size (w.heap.size + 4) (formCells w.heap.size) (by omega)).trans F3
  have F4 := heap_alloc_new (((((w.alloc (.cells formZ 46)).alloc (.cells #[.int .i64 0] 49)).alloc (.cells #[.int .i64 0, .int .i64 2] 49)).alloc (.cells #[.int .i64 0] 49)).alloc (.cells #[.int .i64 0, .int .i64 1] 49)) (.cells #[.int .i64 2] 49)
  rw [show (((((w.alloc (.cells formZ 46)).alloc (.cells #[.int .i64 0] 49)).alloc (.cells #[.int .i64 0, .int .i64 2] 49)).alloc (.cells #[.int .i64 0] 49)).alloc (.cells #[.int .i64 0, .int .i64 1] 49)).heap.size = w.heap.size + 5 by simp] at F4
  replace F4 := (heap_old' (w := ((((((w.alloc (.cells formZ 46)).alloc (.cells #[.int .i64 0] 49)).alloc (.cells #[.int .i64 0, .int .i64 2] 49)).alloc (.cells #[.int .i64 0] 49)).alloc (.cells #[.int .i64 0, .int .i64 1] 49)).alloc (.cells #[.int .i64 2] 49))) (o := .cells #[.int .i64 0] 49) (by simp <;> omega)).trans F4
  replace F4 := (setRow_other (((((((w.alloc (.cells formZ 46)).alloc (.cells #[.int .i64 0] 49)).alloc (.cells #[.int .i64 0, .int .i64 2] 49)).alloc (.cells #[.int .i64 0] 49)).alloc (.cells #[.int .i64 0, .int .i64 1] 49)).alloc (.cells #[.int .i64 2] 49)).alloc (.cells #[.int .i64 0] 49)) w.heap.size (w.heap.size + 5) (formCells w.heap.size) (by omega)).trans F4
  have F5 := heap_alloc_new ((((((w.alloc (.cells formZ 46)).alloc (.cells #[.int .i64 0] 49)).alloc (.cells #[.int .i64 0, .int .i64 2] 49)).alloc (.cells #[.int .i64 0] 49)).alloc (.cells #[.int .i64 0, .int .i64 1] 49)).alloc (.cells #[.int .i64 2] 49)) (.cells #[.int .i64 0] 49)
  rw [show ((((((w.alloc (.cells formZ 46)).alloc (.cells #[.int .i64 0] 49)).alloc (.cells #[.int .i64 0, .int .i64 2] 49)).alloc (.cells #[.int .i64 0] 49)).alloc (.cells #[.int .i64 0, .int .i64 1] 49)).alloc (.cells #[.int .i64 2] 49)).heap.size = w.heap.size + 6 by simp] at F5
  replace F5 := (setRow_other (((((((w.alloc (.cells formZ 46)).alloc (.cells #[.int .i64 0] 49)).alloc (.cells #[.int .i64 0, .int .i64 2] 49)).alloc (.cells #[.int .i64 0] 49)).alloc (.cells #[.int .i64 0, .int .i64 1] 49)).alloc (.cells #[.int .i64 2] 49)).alloc (.cells #[.int .i64 0] 49)) w.heap.size (w.heap.size + 6) (formCells w.heap.size) (by omega)).trans F5
  have bF : Below w.heap.size w (((((((w.alloc (.cells formZ 46)).alloc (.cells #[.int .i64 0] 49)).alloc (.cells #[.int .i64 0, .int .i64 2] 49)).alloc (.cells #[.int .i64 0] 49)).alloc (.cells #[.int .i64 0, .int .i64 1] 49)).alloc (.cells #[.int .i64 2] 49)).alloc (.cells #[.int .i64 0] 49)) := (((((((Below.refl w.heap.size w).alloc (Nat.le_refl _) _).alloc (by simp <;> omega) _).alloc (by simp <;> omega) _).alloc (by simp <;> omega) _).alloc (by simp <;> omega) _).alloc (by simp <;> omega) _).alloc (by simp <;> omega) _
  have bG : Below w.heap.size w ((((((((w.alloc (.cells formZ 46)).alloc (.cells #[.int .i64 0] 49)).alloc (.cells #[.int .i64 0, .int .i64 2] 49)).alloc (.cells #[.int .i64 0] 49)).alloc (.cells #[.int .i64 0, .int .i64 1] 49)).alloc (.cells #[.int .i64 2] 49)).alloc (.cells #[.int .i64 0] 49)).setRow w.heap.size (formCells w.heap.size)) := bF.trans ⟨rfl, rfl, rfl, by simp, fun k hk => setRow_other _ _ k _ (by omega)⟩
  have hc := fun j => cell_setRow_same (((((((w.alloc (.cells formZ 46)).alloc (.cells #[.int .i64 0] 49)).alloc (.cells #[.int .i64 0, .int .i64 2] 49)).alloc (.cells #[.int .i64 0] 49)).alloc (.cells #[.int .i64 0, .int .i64 1] 49)).alloc (.cells #[.int .i64 2] 49)).alloc (.cells #[.int .i64 0] 49)) w.heap.size j formZ (formCells w.heap.size) 46 (0, 0) hZ
  have hV := setRow_heap (((((((w.alloc (.cells formZ 46)).alloc (.cells #[.int .i64 0] 49)).alloc (.cells #[.int .i64 0, .int .i64 2] 49)).alloc (.cells #[.int .i64 0] 49)).alloc (.cells #[.int .i64 0, .int .i64 1] 49)).alloc (.cells #[.int .i64 2] 49)).alloc (.cells #[.int .i64 0] 49)) w.heap.size formZ (formCells w.heap.size) 46 (0, 0) hZ
  rw [← formZ_def]
  generalize (((((((w.alloc (.cells formZ 46)).alloc (.cells #[.int .i64 0] 49)).alloc (.cells #[.int .i64 0, .int .i64 2] 49)).alloc (.cells #[.int .i64 0] 49)).alloc (.cells #[.int .i64 0, .int .i64 1] 49)).alloc (.cells #[.int .i64 2] 49)).alloc (.cells #[.int .i64 0] 49)).setRow w.heap.size (formCells w.heap.size) = V at *
  clear hc bF
  go_wp2_with fail
  exact bodyPost_ret (v := .agg (formCells w.heap.size)) (results_cell_row Tryd.results19 _ V w.heap.size 46 (formCells w.heap.size) (0, 0) _ rfl hV Tryd.underlying46 rfl (by kernel_rfl)) rfl ⟨rfl, ⟨F0, F1, F2, F3, F4, F5⟩, bG⟩
end Go.Proofs.YtalhmogaogaekaaDoor
