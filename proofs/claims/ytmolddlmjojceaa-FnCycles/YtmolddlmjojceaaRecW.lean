
/- Walks of the functions on one record: its copy, its fault (of the program and of the model). -/
import Derived.Test.YtmolddlmjojceaaSmall
import Derived.Test.YtmolddlmjojceaaRecM
namespace Go.Proofs.Ytmolddlmjojceaa
open Go.RowKit

theorem l2Txn_any (v : Int) (w : World) :
    Calls Try.prog 19 #[.int .i64 v] w fun e w' => e = .returned (.bool (Ch.inB v 1 999)) ∧ w' = w := by
  go_enter Try.func19, Try.ntmps19
  go_wp2_with (go_at_call 33; refine (in_any _ _ _ _).mono ?_; rintro e w' ⟨rfl, rfl⟩)
  go_ret
  exact ⟨rfl, rfl⟩

theorem isTxn_any (v : Int) (w : World) :
    Calls Try.prog 27 #[.int .i64 v] w fun e w' => e = .returned (.bool (Ch.inB v 1 999)) ∧ w' = w := by
  unfold Ch.inB
  by_cases h1 : 1 ≤ v
  all_goals by_cases h2 : v ≤ 999
  all_goals
    go_enter Try.func27, Try.ntmps27
    go_wp2
    go_ret
    exact ⟨by simp [h1, h2], rfl⟩

end Go.Proofs.Ytmolddlmjojceaa
