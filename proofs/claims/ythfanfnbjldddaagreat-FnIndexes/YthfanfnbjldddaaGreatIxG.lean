
/- IndexFault of the model. -/
import Derived.Test.YthfanfnbjldddaaGreatMz3
import Derived.Test.YthfanfnbjldddaaGreatLvF
namespace Go.Proofs.YthfanfnbjldddaaGreat
open Go.RowKit Go.Maps

set_option maxHeartbeats 1000000 in
theorem behind_any (xt xm yt ym : Int) (W : World) : Calls Tryz.prog 83 #[.agg #[.int .i64 xt, .int .i64 xm], .agg #[.int .i64 yt, .int .i64 ym]] W fun e w' => e = .returned (.bool (Ch.ltE ⟨xt, xm⟩ ⟨yt, ym⟩)) ∧ Below W.heap.size W w' := by
  have kb : Below W.heap.size W ((W.alloc (.cells #[.int .i64 xt, .int .i64 xm] 55)).alloc (.cells #[.int .i64 yt, .int .i64 ym] 55)) := ((Below.refl _ _).alloc (Nat.le_refl _) _).alloc (by simp) _
  by_cases h1 : xt = yt
  · have e1 : (xt != yt) = false := by simpa using h1
    have HE : Hid (Ch.ltE ⟨xt, xm⟩ ⟨yt, ym⟩ = decide (xm < ym)) := by
      show _ = _
      unfold Ch.ltE
      have : ¬ xt < yt := by omega
      simp [h1]
    clear h1
    go_enter Tryz.func83, Tryz.ntmps83
    go_wp2
    go_ret
    exact ⟨by rw [HE.out]; (try simp), kb⟩
  · have e1 : (xt != yt) = true := by simpa using h1
    have HE : Hid (Ch.ltE ⟨xt, xm⟩ ⟨yt, ym⟩ = decide (xt < yt)) := by
      show _ = _
      unfold Ch.ltE
      simp [h1]
    clear h1
    go_enter Tryz.func83, Tryz.ntmps83
    go_wp2
    go_ret
    exact ⟨by rw [HE.out]; (try simp), kb⟩

end Go.Proofs.YthfanfnbjldddaaGreat
