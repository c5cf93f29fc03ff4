
/- FitModes and CoversMode of the program: the tables within the functions. -/
import Derived.Test.YtjagobcogkdfhaaModW
import Derived.Great.Walk
import Derived.Deep.WholeRow
import Derived.Deep.DeepCutAuto
namespace Go.Proofs.Ytjagobcogkdfhaa
open Go.RowKit Go.Great
def implFitCells : Array Value := #[.bool true, .bool true, .bool true, .bool true, .bool true, .bool true, .bool true, .bool true, .bool true, .bool true, .bool true, .bool false, .bool true, .bool true, .bool true, .bool false, .bool false, .bool false, .bool true, .bool true, .bool false, .bool true, .bool false, .bool false, .bool true, .bool true, .bool false, .bool false, .bool false, .bool false, .bool true, .bool false, .bool false, .bool false, .bool false, .bool false]
theorem implFitCells_at {a b : Int} (ha : Ch.isM a = true) (hb : Ch.isM b = true) : implFitCells[a.toNat * 6 + b.toNat]? = some (.bool (Ch.tab Ch.fitT a b)) := by
  rcases Ch.mode_cases ha with rfl | rfl | rfl | rfl | rfl | rfl
  all_goals rcases Ch.mode_cases hb with rfl | rfl | rfl | rfl | rfl | rfl
  all_goals rfl
set_option maxRecDepth 20000 in
set_option maxHeartbeats 1000000 in
theorem implFit_any (a b : Int) (w : World) :
    Calls Try.prog 152 #[.int .i64 a, .int .i64 b] w fun e w' => e = .returned (.bool (Ch.isM a && Ch.isM b && Ch.tab Ch.fitT a b)) ∧ Below w.heap.size w w' := by
  go_enter Try.func152, Try.ntmps152
  go_upto_region 1 with fail
  go_cut [5] (fun s wx => s = .pointer (some ⟨w.heap.size, 0, none⟩) ∧ (∀ i, wx.cell? ⟨w.heap.size, i, none⟩ = implFitCells[i]?) ∧ Below w.heap.size w wx)
  case first =>
    refine wp_region_lit ?_
    refine wpList_buildTo rfl _ _ rfl _ rfl #[.bool true, .bool true, .bool true, .bool true, .bool true, .bool true] (by kernel_rfl) ?_
    simp only [Act.put, List.setIfInBounds_toArray, List.set_cons_zero, List.set_cons_succ]
    refine wpList_buildTo rfl _ _ rfl _ rfl #[.bool true, .bool true, .bool true, .bool true, .bool true, .bool false] (by kernel_rfl) ?_
    simp only [Act.put, List.setIfInBounds_toArray, List.set_cons_zero, List.set_cons_succ]
    refine wpList_buildTo rfl _ _ rfl _ rfl #[.bool true, .bool true, .bool true, .bool false, .bool false, .bool false] (by kernel_rfl) ?_
    simp only [Act.put, List.setIfInBounds_toArray, List.set_cons_zero, List.set_cons_succ]
    refine wpList_buildTo rfl _ _ rfl _ rfl #[.bool true, .bool true, .bool false, .bool true, .bool false, .bool false] (by kernel_rfl) ?_
    simp only [Act.put, List.setIfInBounds_toArray, List.set_cons_zero, List.set_cons_succ]
    refine wpList_buildTo rfl _ _ rfl _ rfl #[.bool true, .bool true, .bool false, .bool false, .bool false, .bool false] (by kernel_rfl) ?_
    simp only [Act.put, List.setIfInBounds_toArray, List.set_cons_zero, List.set_cons_succ]
    refine wpList_buildTo rfl _ _ rfl _ rfl #[.bool true, .bool false, .bool false, .bool false, .bool false, .bool false] (by kernel_rfl) ?_
    simp only [Act.put, List.setIfInBounds_toArray, List.set_cons_zero, List.set_cons_succ]
    refine wpList_buildTo rfl _ _ rfl _ rfl implFitCells (by kernel_rfl) ?_
    simp only [Act.put, List.setIfInBounds_toArray, List.set_cons_zero, List.set_cons_succ]
    refine wpList_allocTo rfl _ rfl (.pointer (some ⟨w.heap.size, 0, none⟩)) (.cells (Array.replicate 36 (.bool false)) 219) (by kernel_rfl) ?_
    simp only [Act.put, List.setIfInBounds_toArray, List.set_cons_zero, List.set_cons_succ]
    refine wpList_store_rowTo rfl _ _ _ rfl rfl w.heap.size implFitCells rfl rfl 219 _ (heap_alloc_new w _) (by kernel_rfl) (by kernel_rfl) (by kernel_rfl) ?_
    rw [World.setRow_alloc_new]
    go_wp2_with fail
    go_meet
    exact ⟨rfl, fun i => cell_of_row _ _ _ _ _ _ (heap_alloc_new w _), (Below.refl _ _).alloc (Nat.le_refl _) _⟩
  case rest =>
    obtain ⟨rfl, hc, bw⟩ := hcut
    cases ha : Ch.isM a
    · go_wp2_with (go_at_call 185; refine (isModeAt ha _).mono ?_; rintro e w' ⟨rfl, rfl⟩)
      go_ret
      exact ⟨by rw [ha]; rfl, bw⟩
    cases hb : Ch.isM b
    · go_wp2_with (go_at_call 185; first | refine (isModeAt ha _).mono ?_ | refine (isModeAt hb _).mono ?_
                   rintro e w' ⟨rfl, rfl⟩)
      go_ret
      exact ⟨by rw [ha, hb]; rfl, bw⟩
    have hcell := (hc (a.toNat * 6 + b.toNat)).trans (implFitCells_at ha hb)
    obtain ⟨a0, a1⟩ := Ch.mode_bd ha
    obtain ⟨b0, b1⟩ := Ch.mode_bd hb
    obtain ⟨x, rfl⟩ := Int.eq_ofNat_of_zero_le a0
    obtain ⟨y, rfl⟩ := Int.eq_ofNat_of_zero_le b0
    simp only [Int.toNat_natCast] at hcell
    obtain ⟨t, ht⟩ : ∃ t, Hid (Ch.tab Ch.fitT (x : Int) (y : Int) = t) := ⟨_, rfl⟩
    rw [ht.out] at hcell
    clear hc
    go_wp2_with (go_at_call 185; first | refine (isModeAt ha _).mono ?_ | refine (isModeAt hb _).mono ?_
                 rintro e w' ⟨rfl, rfl⟩)
    go_ret
    exact ⟨by rw [ha, hb, ht.out]; rfl, bw⟩
def implCovCells : Array Value := #[.bool true, .bool false, .bool false, .bool false, .bool false, .bool false, .bool true, .bool true, .bool false, .bool false, .bool false, .bool false, .bool true, .bool true, .bool true, .bool false, .bool false, .bool false, .bool true, .bool true, .bool false, .bool true, .bool false, .bool false, .bool true, .bool true, .bool true, .bool true, .bool true, .bool false, .bool true, .bool true, .bool true, .bool true, .bool true, .bool true]
theorem implCovCells_at {a b : Int} (ha : Ch.isM a = true) (hb : Ch.isM b = true) : implCovCells[a.toNat * 6 + b.toNat]? = some (.bool (Ch.tab Ch.covT a b)) := by
  rcases Ch.mode_cases ha with rfl | rfl | rfl | rfl | rfl | rfl
  all_goals rcases Ch.mode_cases hb with rfl | rfl | rfl | rfl | rfl | rfl
  all_goals rfl
set_option maxRecDepth 20000 in
set_option maxHeartbeats 1000000 in
theorem implCov_any (a b : Int) (w : World) :
    Calls Try.prog 217 #[.int .i64 a, .int .i64 b] w fun e w' => e = .returned (.bool (Ch.isM a && Ch.isM b && Ch.tab Ch.covT a b)) ∧ Below w.heap.size w w' := by
  go_enter Try.func217, Try.ntmps217
  go_upto_region 1 with fail
  go_cut [5] (fun s wx => s = .pointer (some ⟨w.heap.size, 0, none⟩) ∧ (∀ i, wx.cell? ⟨w.heap.size, i, none⟩ = implCovCells[i]?) ∧ Below w.heap.size w wx)
  case first =>
    refine wp_region_lit ?_
    refine wpList_buildTo rfl _ _ rfl _ rfl #[.bool true, .bool false, .bool false, .bool false, .bool false, .bool false] (by kernel_rfl) ?_
    simp only [Act.put, List.setIfInBounds_toArray, List.set_cons_zero, List.set_cons_succ]
    refine wpList_buildTo rfl _ _ rfl _ rfl #[.bool true, .bool true, .bool false, .bool false, .bool false, .bool false] (by kernel_rfl) ?_
    simp only [Act.put, List.setIfInBounds_toArray, List.set_cons_zero, List.set_cons_succ]
    refine wpList_buildTo rfl _ _ rfl _ rfl #[.bool true, .bool true, .bool true, .bool false, .bool false, .bool false] (by kernel_rfl) ?_
    simp only [Act.put, List.setIfInBounds_toArray, List.set_cons_zero, List.set_cons_succ]
    refine wpList_buildTo rfl _ _ rfl _ rfl #[.bool true, .bool true, .bool false, .bool true, .bool false, .bool false] (by kernel_rfl) ?_
    simp only [Act.put, List.setIfInBounds_toArray, List.set_cons_zero, List.set_cons_succ]
    refine wpList_buildTo rfl _ _ rfl _ rfl #[.bool true, .bool true, .bool true, .bool true, .bool true, .bool false] (by kernel_rfl) ?_
    simp only [Act.put, List.setIfInBounds_toArray, List.set_cons_zero, List.set_cons_succ]
    refine wpList_buildTo rfl _ _ rfl _ rfl #[.bool true, .bool true, .bool true, .bool true, .bool true, .bool true] (by kernel_rfl) ?_
    simp only [Act.put, List.setIfInBounds_toArray, List.set_cons_zero, List.set_cons_succ]
    refine wpList_buildTo rfl _ _ rfl _ rfl implCovCells (by kernel_rfl) ?_
    simp only [Act.put, List.setIfInBounds_toArray, List.set_cons_zero, List.set_cons_succ]
    refine wpList_allocTo rfl _ rfl (.pointer (some ⟨w.heap.size, 0, none⟩)) (.cells (Array.replicate 36 (.bool false)) 219) (by kernel_rfl) ?_
    simp only [Act.put, List.setIfInBounds_toArray, List.set_cons_zero, List.set_cons_succ]
    refine wpList_store_rowTo rfl _ _ _ rfl rfl w.heap.size implCovCells rfl rfl 219 _ (heap_alloc_new w _) (by kernel_rfl) (by kernel_rfl) (by kernel_rfl) ?_
    rw [World.setRow_alloc_new]
    go_wp2_with fail
    go_meet
    exact ⟨rfl, fun i => cell_of_row _ _ _ _ _ _ (heap_alloc_new w _), (Below.refl _ _).alloc (Nat.le_refl _) _⟩
  case rest =>
    obtain ⟨rfl, hc, bw⟩ := hcut
    cases ha : Ch.isM a
    · go_wp2_with (go_at_call 185; refine (isModeAt ha _).mono ?_; rintro e w' ⟨rfl, rfl⟩)
      go_ret
      exact ⟨by rw [ha]; rfl, bw⟩
    cases hb : Ch.isM b
    · go_wp2_with (go_at_call 185; first | refine (isModeAt ha _).mono ?_ | refine (isModeAt hb _).mono ?_
                   rintro e w' ⟨rfl, rfl⟩)
      go_ret
      exact ⟨by rw [ha, hb]; rfl, bw⟩
    have hcell := (hc (a.toNat * 6 + b.toNat)).trans (implCovCells_at ha hb)
    obtain ⟨a0, a1⟩ := Ch.mode_bd ha
    obtain ⟨b0, b1⟩ := Ch.mode_bd hb
    obtain ⟨x, rfl⟩ := Int.eq_ofNat_of_zero_le a0
    obtain ⟨y, rfl⟩ := Int.eq_ofNat_of_zero_le b0
    simp only [Int.toNat_natCast] at hcell
    obtain ⟨t, ht⟩ : ∃ t, Hid (Ch.tab Ch.covT (x : Int) (y : Int) = t) := ⟨_, rfl⟩
    rw [ht.out] at hcell
    clear hc
    go_wp2_with (go_at_call 185; first | refine (isModeAt ha _).mono ?_ | refine (isModeAt hb _).mono ?_
                 rintro e w' ⟨rfl, rfl⟩)
    go_ret
    exact ⟨by rw [ha, hb, ht.out]; rfl, bw⟩
end Go.Proofs.Ytjagobcogkdfhaa
