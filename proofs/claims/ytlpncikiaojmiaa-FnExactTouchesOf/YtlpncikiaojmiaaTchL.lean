/- The law FnExactTouchesOf. -/
import Derived.Test.YtlpncikiaojmiaaTchW
namespace Go.Proofs.Ytlpncikiaojmiaa
open Go.RowKit

set_option maxHeartbeats 400000 in
theorem lawTouches_any (k a b v key : Int) (w : World) :
    Calls Try.prog 5 #[.agg #[.int .i64 k, .int .i64 a, .int .i64 b, .int .i64 v], .int .i64 key] w fun e w' => e = .returned (.bool true) ∧ Below w.heap.size w w' := by
  have hs := fun W => specTouches_any k a b v key W
  have hi := fun W => implTouches_any k a b v key W
  generalize Ch.touches k a b v key = F at *
  go_enter Try.func5, Try.ntmps5
  go_wp2_with fail
  refine (toOp_any _ _ _ _ _).mono ?_
  rintro e w1 ⟨rfl, b1⟩
  go_wp2_with fail
  refine (hs _).mono ?_
  rintro e w2 ⟨rfl, b2⟩
  have b2' := b1.trans (b2.mono b1.size)
  clear b1 b2 hs
  obtain ⟨c2, f2⟩ := bcell b2'
  have x0 := c2 w.heap.size 0 (by simp)
  have x1 := c2 w.heap.size 1 (by simp)
  have x2 := c2 w.heap.size 2 (by simp)
  have x3 := c2 w.heap.size 3 (by simp)
  clear c2 f2
  simp [go_sem] at x0 x1 x2 x3
  go_wp2_with fail
  refine (toOp_any _ _ _ _ _).mono ?_
  rintro e w3 ⟨rfl, b3⟩
  go_wp2_with fail
  refine (hi _).mono ?_
  rintro e w4 ⟨rfl, b4⟩
  have b3' := b2'.trans (b3.mono b2'.size)
  have b4' := b3'.trans (b4.mono b3'.size)
  go_wp2
  go_ret
  exact ⟨rfl, ((Below.refl _ _).alloc (Nat.le_refl _) _).trans (b4'.mono (by simp))⟩
end Go.Proofs.Ytlpncikiaojmiaa
