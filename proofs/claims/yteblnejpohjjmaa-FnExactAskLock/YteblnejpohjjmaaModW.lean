
/- IsMode, FitModes, CoversMode of the program and of the model. -/
import Derived.Test.YteblnejpohjjmaaSmall
import Derived.Test.YteblnejpohjjmaaModM
namespace Go.Proofs.Yteblnejpohjjmaa
open Go.RowKit

theorem isMode_any (v : Int) (w : World) :
    Calls Try.prog 59 #[.int .i64 v] w fun e w' => e = .returned (.bool (Ch.isM v)) ∧ w' = w := by
  unfold Ch.isM Ch.inB
  by_cases h1 : 0 ≤ v
  all_goals by_cases h2 : v ≤ 5
  all_goals
    go_enter Try.func59, Try.ntmps59
    go_wp2
    go_ret
    exact ⟨by simp [h1, h2], rfl⟩

theorem isModeAt {v : Int} {b : Bool} (h : Ch.isM v = b) (w : World) :
    Calls Try.prog 59 #[.int .i64 v] w fun e w' => e = .returned (.bool b) ∧ w' = w := by
  subst h; exact isMode_any v w
end Go.Proofs.Yteblnejpohjjmaa
