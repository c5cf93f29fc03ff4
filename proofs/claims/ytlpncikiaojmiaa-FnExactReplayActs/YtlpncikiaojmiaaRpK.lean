/- The law's functions on results of a replay. -/
import Derived.Test.YtlpncikiaojmiaaMz5
import Derived.Test.YtlpncikiaojmiaaMz6
import Derived.Test.YtlpncikiaojmiaaMz0
namespace Go.Proofs.Ytlpncikiaojmiaa
open Go.RowKit

set_option maxHeartbeats 400000 in
theorem eqReplay_same (c : Int) (k : Bool) (a a' : Option Addr) (n cap cap' : Nat) (rs : List Ch.Row) (w : World) (h : CellsAt w a (n * 3) (rcells rs)) (h' : CellsAt w a' (n * 3) (rcells rs)) (hn : n ≤ 1048576) :
    Calls Try.prog 14 #[.agg #[.int .i64 c, .bool k, .slice a n cap], .agg #[.int .i64 c, .bool k, .slice a' n cap']] w fun e w' => e = .returned (.bool true) ∧ Below w.heap.size w w' := by
  have hcc : (c != c) = false := by simp
  have hkk : (k != k) = false := by simp
  have b0 : Below w.heap.size w ((w.alloc (.cells #[.int .i64 c, .bool k, .slice a n cap] 29)).alloc (.cells #[.int .i64 c, .bool k, .slice a' n cap'] 29)) := ((Below.refl _ _).alloc (Nat.le_refl _) _).alloc (by simp) _
  go_enter Try.func14, Try.ntmps14
  go_wp2_with fail
  refine (eqRowS_same a a' n cap cap' rs _ (h.below b0) (h'.below b0) (by omega)).mono ?_
  rintro e w1 ⟨rfl, b1⟩
  go_wp2
  go_ret
  exact ⟨rfl, b0.trans (b1.mono (by simp; omega))⟩

set_option maxHeartbeats 400000 in
theorem markReplay_any (c : Int) (k : Bool) (B : Nat) (a : Option Addr) (n cap : Nat) (rs : List Ch.Row) (w : World) (hown : w.ownsRow B 64 3 (.slice a n cap) n (rcells rs)) (hn : n ≤ 1048576) :
    Calls Try.prog 21 #[.agg #[.int .i64 c, .bool k, .slice a n cap], .int .i64 1] w fun e w' => e = .returned (.int .i64 (1 + 3 * n)) ∧ w'.ownsRow B 64 3 (.slice a n cap) n (rcells (rmarks 1 n)) ∧ w.grownBy w' (Value.slice a n cap).ownBlock := by
  go_enter Try.func21, Try.ntmps21
  go_wp2_with fail
  refine (markRowS_own 1 B n a cap rs _ (by decide) (by decide) (hown.alloc _) (by omega)).mono ?_
  rintro e w1 ⟨rfl, own1, gr1⟩
  go_wp2
  go_ret
  exact ⟨rfl, own1, gr_alloc gr1⟩

set_option maxHeartbeats 400000 in
theorem heldReplay_any (c : Int) (k : Bool) (a : Option Addr) (n cap : Nat) (w : World) (h : CellsAt w a (n * 3) (rcells (rmarks 1 n))) (hn : n ≤ 1048576) :
    Calls Try.prog 22 #[.agg #[.int .i64 c, .bool k, .slice a n cap], .int .i64 1] w fun e w' => e = .returned (.int .i64 (1 + 3 * n)) ∧ Below w.heap.size w w' := by
  go_enter Try.func22, Try.ntmps22
  go_wp2_with fail
  refine (heldRowS_any 1 a n cap _ (by decide) (by decide) (h.below ((Below.refl _ _).alloc (Nat.le_refl _) _)) (by omega)).mono ?_
  rintro e w1 ⟨rfl, rfl⟩
  go_wp2
  go_ret
  exact ⟨rfl, (Below.refl _ _).alloc (Nat.le_refl _) _⟩
end Go.Proofs.Ytlpncikiaojmiaa
