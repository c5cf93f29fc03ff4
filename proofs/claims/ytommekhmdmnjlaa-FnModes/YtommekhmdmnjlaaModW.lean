/- IsMode, FitModes, CoversMode of the program and of the model. -/
import Derived.Test.YtommekhmdmnjlaaSmall
import Derived.Test.YtommekhmdmnjlaaModM
namespace Go.Proofs.Ytommekhmdmnjlaa
open Go.RowKit

theorem isMode_any (v : Int) (w : World) :
    Calls Try.prog 22 #[.int .i64 v] w fun e w' => e = .returned (.bool (Ch.isM v)) ∧ w' = w := by
  unfold Ch.isM Ch.inB
  by_cases h1 : 0 ≤ v
  all_goals by_cases h2 : v ≤ 5
  all_goals
    go_enter Try.func22, Try.ntmps22
    go_wp2
    go_ret
    exact ⟨by simp [h1, h2], rfl⟩

theorem specMode_any (v : Int) (w : World) :
    Calls Try.prog 47 #[.int .i64 v] w fun e w' => e = .returned (.bool (Ch.isM v)) ∧ w' = w := by
  go_enter Try.func47, Try.ntmps47
  go_wp2_with (go_at_call 39; refine (in_any _ _ _ _).mono ?_; rintro e w' ⟨rfl, rfl⟩)
  go_ret
  exact ⟨rfl, rfl⟩

theorem specIsMode_any (v : Int) (w : World) :
    Calls Try.prog 25 #[.int .i64 v] w fun e w' => e = .returned (.bool (Ch.isM v)) ∧ w' = w := by
  go_enter Try.func25, Try.ntmps25
  go_wp2_with (go_at_call 47; refine (specMode_any _ _).mono ?_; rintro e w' ⟨rfl, rfl⟩)
  go_ret
  exact ⟨rfl, rfl⟩

theorem isModeAt {v : Int} {b : Bool} (h : Ch.isM v = b) (w : World) :
    Calls Try.prog 22 #[.int .i64 v] w fun e w' => e = .returned (.bool b) ∧ w' = w := by
  subst h; exact isMode_any v w
theorem specModeAt {v : Int} {b : Bool} (h : Ch.isM v = b) (w : World) :
    Calls Try.prog 47 #[.int .i64 v] w fun e w' => e = .returned (.bool b) ∧ w' = w := by
  subst h; exact specMode_any v w

end Go.Proofs.Ytommekhmdmnjlaa
