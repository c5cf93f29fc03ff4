
/- IsMode, FitModes, CoversMode of the program and of the model. -/
import Derived.Test.YtjagobcogkdfhaaSmall
import Derived.Test.YtjagobcogkdfhaaModM
namespace Go.Proofs.Ytjagobcogkdfhaa
open Go.RowKit

theorem isMode_any (v : Int) (w : World) :
    Calls Try.prog 185 #[.int .i64 v] w fun e w' => e = .returned (.bool (Ch.isM v)) ∧ w' = w := by
  unfold Ch.isM Ch.inB
  by_cases h1 : 0 ≤ v
  all_goals by_cases h2 : v ≤ 5
  all_goals
    go_enter Try.func185, Try.ntmps185
    go_wp2
    go_ret
    exact ⟨by simp [h1, h2], rfl⟩

theorem isModeAt {v : Int} {b : Bool} (h : Ch.isM v = b) (w : World) :
    Calls Try.prog 185 #[.int .i64 v] w fun e w' => e = .returned (.bool b) ∧ w' = w := by
  subst h; exact isMode_any v w
end Go.Proofs.Ytjagobcogkdfhaa
