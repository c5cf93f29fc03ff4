/- The law FnExactHasCycle. -/
import Derived.Test.YtndihplibdhogaaHasI
import Derived.Test.YtndihplibdhogaaCysS
import Derived.Test.YtndihplibdhogaaEdA
namespace Go.Proofs.Ytndihplibdhogaa
open Go.RowKit

set_option maxHeartbeats 400000 in
theorem lawHas_any (a : Option Addr) (n cap : Nat) (bs : List Ch.Hold) (w : World) (h : CellsAt w a (n * 2) (hcells bs)) (hm : n ≤ 9223372036854775807) :
    Calls Try.prog 5 #[.slice a n cap] w fun e w' => e = .returned (.bool true) ∧ Below w.heap.size w w' := by
  have SZ := fun W => szEdges_any a n cap 1048576 W (by omega) hm
  by_cases hbig : 1048576 < n
  · rw [if_neg (by omega)] at SZ
    go_enter Try.func5, Try.ntmps5
    go_wp2_with fail
    refine (SZ _).mono ?_
    rintro e w1 ⟨rfl, rfl⟩
    go_wp2
    go_ret
    exact ⟨rfl, Below.refl _ _⟩
  · have hn : n ≤ 1048576 := by omega
    rw [if_pos hn] at SZ
    clear hbig
    have SI := fun (W : World) (A : Option Addr) (hW : CellsAt W A (n * 2) (hcells bs)) => specHas_any A n n bs W hW hn
    have II := fun (W : World) (A : Option Addr) (hW : CellsAt W A (n * 2) (hcells bs)) => implHas_any A n n bs W hW hn
    generalize Ch.hasR bs = c at *
    have hcc : (c != c) = false := by simp
    have hl0 : ¬ ((1048576 : Nat) : Int) - (n : Int) < 0 := by omega
    generalize ((1048576 : Nat) : Int) - (n : Int) = L at *
    go_enter Try.func5, Try.ntmps5
    go_wp2_with fail
    refine (SZ _).mono ?_
    rintro e w0 ⟨rfl, rfl⟩
    go_wp2_with fail
    refine (toEdgeS_any a n cap bs _ h hn).mono ?_
    rintro e w1 ⟨rfl, o1, b1⟩
    go_wp2_with fail
    refine (SI _ _ (owns_cells o1)).mono ?_
    rintro e w2 ⟨rfl, b2⟩
    have b2' := b1.trans (b2.mono b1.size)
    go_wp2_with fail
    refine (toEdgeS_any a n cap bs _ (h.below b2') hn).mono ?_
    rintro e w3 ⟨rfl, o3, b3⟩
    have b3' := b2'.trans (b3.mono b2'.size)
    go_wp2_with fail
    refine (II _ _ (owns_cells o3)).mono ?_
    rintro e w4 ⟨rfl, b4⟩
    have b4' := b3'.trans (b4.mono b3'.size)
    have o4 := owns_below o3 b4
    go_wp2_with fail
    refine (toEdgeS_any a n cap bs _ (h.below b4') hn).mono ?_
    rintro e w5 ⟨rfl, o5, b5⟩
    have b5' := b4'.trans (b5.mono b4'.size)
    have o6 := owns_below o4 b5
    go_wp2_with fail
    refine (eqEdgeS_same _ _ n n n bs _ (owns_cells o6) (owns_cells o5) (by omega)).mono ?_
    rintro e w6 ⟨rfl, b6⟩
    go_wp2
    go_ret
    exact ⟨rfl, b5'.trans (b6.mono b5'.size)⟩
end Go.Proofs.Ytndihplibdhogaa
