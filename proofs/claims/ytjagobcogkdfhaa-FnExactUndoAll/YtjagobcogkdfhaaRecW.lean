
/- Walks of the functions on one record: its copy, its fault (of the program and of the model). -/
import Derived.Test.YtjagobcogkdfhaaSmall
import Derived.Test.YtjagobcogkdfhaaRecM
namespace Go.Proofs.Ytjagobcogkdfhaa
open Go.RowKit

theorem l2Txn_any (v : Int) (w : World) :
    Calls Try.prog 102 #[.int .i64 v] w fun e w' => e = .returned (.bool (Ch.inB v 1 999)) ∧ w' = w := by
  go_enter Try.func102, Try.ntmps102
  go_wp2_with (go_at_call 145; refine (in_any _ _ _ _).mono ?_; rintro e w' ⟨rfl, rfl⟩)
  go_ret
  exact ⟨rfl, rfl⟩

theorem isTxn_any (v : Int) (w : World) :
    Calls Try.prog 119 #[.int .i64 v] w fun e w' => e = .returned (.bool (Ch.inB v 1 999)) ∧ w' = w := by
  unfold Ch.inB
  by_cases h1 : 1 ≤ v
  all_goals by_cases h2 : v ≤ 999
  all_goals
    go_enter Try.func119, Try.ntmps119
    go_wp2
    go_ret
    exact ⟨by simp [h1, h2], rfl⟩

theorem tells_any (v : Int) (w : World) :
    Calls Try.prog 120 #[.int .i64 v] w fun e w' => e = .returned (.bool (Ch.sets v)) ∧ w' = w := by
  unfold Ch.sets
  cases h1 : (v == 2)
  all_goals
    go_enter Try.func120, Try.ntmps120
    go_wp2
    go_ret
    exact ⟨by simp, rfl⟩

end Go.Proofs.Ytjagobcogkdfhaa
