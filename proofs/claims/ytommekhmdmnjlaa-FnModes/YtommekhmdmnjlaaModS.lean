/- FitModes, CoversMode of the model; the laws of IsMode, FitModes, CoversMode. -/
import Derived.Test.YtommekhmdmnjlaaModT
namespace Go.Proofs.Ytommekhmdmnjlaa
open Go.RowKit

set_option maxHeartbeats 4000000 in
theorem specFit_le (a b : Int) (w : World) (ha : Ch.isM a = true) (hb : Ch.isM b = true) (hab : ¬ b < a) :
    Calls Try.prog 48 #[.int .i64 a, .int .i64 b] w fun e w' => e = .returned (.bool (Ch.tab Ch.fitT a b)) ∧ w' = w := by
  rcases Ch.mode_cases ha with rfl | rfl | rfl | rfl | rfl | rfl
  all_goals rcases Ch.mode_cases hb with rfl | rfl | rfl | rfl | rfl | rfl
  all_goals first | (exfalso; revert hab; decide) | skip
  all_goals
    clear ha hb hab
    go_enter Try.func48, Try.ntmps48
    go_wp2_with fail
    go_ret
    exact ⟨rfl, rfl⟩

theorem Ch.fit_swap (a b : Int) (ha : Ch.isM a = true) (hb : Ch.isM b = true) : Ch.tab Ch.fitT a b = Ch.tab Ch.fitT b a := by
  rcases Ch.mode_cases ha with rfl | rfl | rfl | rfl | rfl | rfl
  all_goals rcases Ch.mode_cases hb with rfl | rfl | rfl | rfl | rfl | rfl
  all_goals rfl

theorem l5Fit_any (a b : Int) (w : World) (ha : Ch.isM a = true) (hb : Ch.isM b = true) :
    Calls Try.prog 48 #[.int .i64 a, .int .i64 b] w fun e w' => e = .returned (.bool (Ch.tab Ch.fitT a b)) ∧ w' = w := by
  by_cases hab : b < a
  · rw [Ch.fit_swap a b ha hb]
    have BI := fun w' => specFit_le b a w' hb ha (by omega)
    obtain ⟨t, ht⟩ : ∃ t, Hid (Ch.tab Ch.fitT b a = t) := ⟨_, rfl⟩
    rw [ht.out] at BI ⊢
    clear ha hb ht
    go_enter Try.func48, Try.ntmps48
    go_wp2_with (go_at_call 48; refine (BI _).mono ?_; rintro e w' ⟨rfl, rfl⟩)
    go_ret
    exact ⟨rfl, rfl⟩
  · exact specFit_le a b w ha hb hab

theorem specFit_any (a b : Int) (w : World) :
    Calls Try.prog 21 #[.int .i64 a, .int .i64 b] w fun e w' => e = .returned (.bool (Ch.isM a && Ch.isM b && Ch.tab Ch.fitT a b)) ∧ w' = w := by
  cases ha : Ch.isM a
  · go_enter Try.func21, Try.ntmps21
    go_wp2_with (go_at_call 47; refine (specModeAt ha _).mono ?_; rintro e w' ⟨rfl, rfl⟩)
    go_ret
    exact ⟨rfl, rfl⟩
  cases hb : Ch.isM b
  · go_enter Try.func21, Try.ntmps21
    go_wp2_with (go_at_call 47; first | refine (specModeAt ha _).mono ?_ | refine (specModeAt hb _).mono ?_
                 rintro e w' ⟨rfl, rfl⟩)
    go_ret
    exact ⟨rfl, rfl⟩
  have BI := fun w' => l5Fit_any a b w' ha hb
  obtain ⟨t, ht⟩ : ∃ t, Hid (Ch.tab Ch.fitT a b = t) := ⟨_, rfl⟩
  rw [ht.out] at BI ⊢
  clear ht
  go_enter Try.func21, Try.ntmps21
  go_wp2_with (first | (go_at_call 47; first | refine (specModeAt ha _).mono ?_ | refine (specModeAt hb _).mono ?_
                        rintro e w' ⟨rfl, rfl⟩) | (go_at_call 48; refine (BI _).mono ?_; rintro e w' ⟨rfl, rfl⟩))
  go_ret
  exact ⟨rfl, rfl⟩

set_option maxHeartbeats 4000000 in
theorem l5Cov_any (a b : Int) (w : World) (ha : Ch.isM a = true) (hb : Ch.isM b = true) :
    Calls Try.prog 50 #[.int .i64 a, .int .i64 b] w fun e w' => e = .returned (.bool (Ch.tab Ch.covT a b)) ∧ w' = w := by
  rcases Ch.mode_cases ha with rfl | rfl | rfl | rfl | rfl | rfl
  all_goals rcases Ch.mode_cases hb with rfl | rfl | rfl | rfl | rfl | rfl
  all_goals
    clear ha hb
    go_enter Try.func50, Try.ntmps50
    go_wp2_with fail
    go_ret
    exact ⟨rfl, rfl⟩

theorem specCov_any (a b : Int) (w : World) :
    Calls Try.prog 28 #[.int .i64 a, .int .i64 b] w fun e w' => e = .returned (.bool (Ch.isM a && Ch.isM b && Ch.tab Ch.covT a b)) ∧ w' = w := by
  cases ha : Ch.isM a
  · go_enter Try.func28, Try.ntmps28
    go_wp2_with (go_at_call 47; refine (specModeAt ha _).mono ?_; rintro e w' ⟨rfl, rfl⟩)
    go_ret
    exact ⟨rfl, rfl⟩
  cases hb : Ch.isM b
  · go_enter Try.func28, Try.ntmps28
    go_wp2_with (go_at_call 47; first | refine (specModeAt ha _).mono ?_ | refine (specModeAt hb _).mono ?_
                 rintro e w' ⟨rfl, rfl⟩)
    go_ret
    exact ⟨rfl, rfl⟩
  have BI := fun w' => l5Cov_any a b w' ha hb
  obtain ⟨t, ht⟩ : ∃ t, Hid (Ch.tab Ch.covT a b = t) := ⟨_, rfl⟩
  rw [ht.out] at BI ⊢
  clear ht
  go_enter Try.func28, Try.ntmps28
  go_wp2_with (first | (go_at_call 47; first | refine (specModeAt ha _).mono ?_ | refine (specModeAt hb _).mono ?_
                        rintro e w' ⟨rfl, rfl⟩) | (go_at_call 50; refine (BI _).mono ?_; rintro e w' ⟨rfl, rfl⟩))
  go_ret
  exact ⟨rfl, rfl⟩
end Go.Proofs.Ytommekhmdmnjlaa
