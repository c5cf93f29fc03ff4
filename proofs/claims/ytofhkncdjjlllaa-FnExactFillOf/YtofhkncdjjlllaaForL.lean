
/- The law FnExactLeafFor. -/
import Derived.Test.YtofhkncdjjlllaaForI
namespace Go.Proofs.Ytofhkncdjjlllaa
open Go.RowKit

theorem eqInt_same (c v : Int) (w : World) :
    Calls Try.prog 44 #[.agg #[.int .i64 c, .int .i64 v], .agg #[.int .i64 c, .int .i64 v]] w fun e w' => e = .returned (.bool true) ∧ Below w.heap.size w w' := by
  have h0 : (c != c) = false := by simp
  have h1 : (v != v) = false := by simp
  go_enter Try.func44, Try.ntmps44
  go_wp2
  go_ret
  exact ⟨rfl, ((Below.refl _ _).alloc (Nat.le_refl _) _).alloc (by simp) _⟩

end Go.Proofs.Ytofhkncdjjlllaa
