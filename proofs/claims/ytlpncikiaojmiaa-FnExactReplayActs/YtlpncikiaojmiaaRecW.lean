
/- Walks of the functions on one record: its copy, its fault (of the program and of the model). -/
import Derived.Test.YtlpncikiaojmiaaSmall
import Derived.Test.YtlpncikiaojmiaaRecM
namespace Go.Proofs.Ytlpncikiaojmiaa
open Go.RowKit

theorem l2Txn_any (v : Int) (w : World) :
    Calls Try.prog 58 #[.int .i64 v] w fun e w' => e = .returned (.bool (Ch.inB v 1 999)) ∧ w' = w := by
  go_enter Try.func58, Try.ntmps58
  go_wp2_with (go_at_call 78; refine (in_any _ _ _ _).mono ?_; rintro e w' ⟨rfl, rfl⟩)
  go_ret
  exact ⟨rfl, rfl⟩

theorem isTxn_any (v : Int) (w : World) :
    Calls Try.prog 60 #[.int .i64 v] w fun e w' => e = .returned (.bool (Ch.inB v 1 999)) ∧ w' = w := by
  unfold Ch.inB
  by_cases h1 : 1 ≤ v
  all_goals by_cases h2 : v ≤ 999
  all_goals
    go_enter Try.func60, Try.ntmps60
    go_wp2
    go_ret
    exact ⟨by simp [h1, h2], rfl⟩

end Go.Proofs.Ytlpncikiaojmiaa
