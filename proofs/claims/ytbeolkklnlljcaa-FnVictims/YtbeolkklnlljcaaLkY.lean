
/- The laws FnExactModeOf and FnExactWaitsAt. -/
import Derived.Test.YtbeolkklnlljcaaLkX
namespace Go.Proofs.Ytbeolkklnlljcaa
open Go.RowKit

theorem eqInt_same (c v : Int) (w : World) :
    Calls Try.prog 54 #[.agg #[.int .i64 c, .int .i64 v], .agg #[.int .i64 c, .int .i64 v]] w fun e w' => e = .returned (.bool true) ∧ Below w.heap.size w w' := by
  have h0 : (c != c) = false := by simp
  have h1 : (v != v) = false := by simp
  go_enter Try.func54, Try.ntmps54
  go_wp2
  go_ret
  exact ⟨rfl, ((Below.refl _ _).alloc (Nat.le_refl _) _).alloc (by simp) _⟩

end Go.Proofs.Ytbeolkklnlljcaa
