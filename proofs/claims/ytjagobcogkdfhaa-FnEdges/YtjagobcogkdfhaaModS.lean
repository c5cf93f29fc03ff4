
/- FitModes, CoversMode of the model; the laws of IsMode, FitModes, CoversMode. -/
import Derived.Test.YtjagobcogkdfhaaModT
namespace Go.Proofs.Ytjagobcogkdfhaa
open Go.RowKit

set_option maxHeartbeats 4000000 in
theorem specFit_le (a b : Int) (w : World) (ha : Ch.isM a = true) (hb : Ch.isM b = true) (hab : ¬ b < a) :
    Calls Try.prog 159 #[.int .i64 a, .int .i64 b] w fun e w' => e = .returned (.bool (Ch.tab Ch.fitT a b)) ∧ w' = w := by
  rcases Ch.mode_cases ha with rfl | rfl | rfl | rfl | rfl | rfl
  all_goals rcases Ch.mode_cases hb with rfl | rfl | rfl | rfl | rfl | rfl
  all_goals first | (exfalso; revert hab; decide) | skip
  all_goals
    clear ha hb hab
    go_enter Try.func159, Try.ntmps159
    go_wp2_with fail
    go_ret
    exact ⟨rfl, rfl⟩

theorem Ch.fit_swap (a b : Int) (ha : Ch.isM a = true) (hb : Ch.isM b = true) : Ch.tab Ch.fitT a b = Ch.tab Ch.fitT b a := by
  rcases Ch.mode_cases ha with rfl | rfl | rfl | rfl | rfl | rfl
  all_goals rcases Ch.mode_cases hb with rfl | rfl | rfl | rfl | rfl | rfl
  all_goals rfl

theorem l5Fit_any (a b : Int) (w : World) (ha : Ch.isM a = true) (hb : Ch.isM b = true) :
    Calls Try.prog 159 #[.int .i64 a, .int .i64 b] w fun e w' => e = .returned (.bool (Ch.tab Ch.fitT a b)) ∧ w' = w := by
  by_cases hab : b < a
  · rw [Ch.fit_swap a b ha hb]
    have BI := fun w' => specFit_le b a w' hb ha (by omega)
    obtain ⟨t, ht⟩ : ∃ t, Hid (Ch.tab Ch.fitT b a = t) := ⟨_, rfl⟩
    rw [ht.out] at BI ⊢
    clear ha hb ht
    go_enter Try.func159, Try.ntmps159
    go_wp2_with (go_at_call 159; refine (BI _).mono ?_; rintro e w' ⟨rfl, rfl⟩)
    go_ret
    exact ⟨rfl, rfl⟩
  · exact specFit_le a b w ha hb hab

set_option maxHeartbeats 4000000 in
theorem l5Cov_any (a b : Int) (w : World) (ha : Ch.isM a = true) (hb : Ch.isM b = true) :
    Calls Try.prog 210 #[.int .i64 a, .int .i64 b] w fun e w' => e = .returned (.bool (Ch.tab Ch.covT a b)) ∧ w' = w := by
  rcases Ch.mode_cases ha with rfl | rfl | rfl | rfl | rfl | rfl
  all_goals rcases Ch.mode_cases hb with rfl | rfl | rfl | rfl | rfl | rfl
  all_goals
    clear ha hb
    go_enter Try.func210, Try.ntmps210
    go_wp2_with fail
    go_ret
    exact ⟨rfl, rfl⟩

end Go.Proofs.Ytjagobcogkdfhaa
