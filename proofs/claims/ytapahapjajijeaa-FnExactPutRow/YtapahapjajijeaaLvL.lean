/- The law FnExactLeavesFault. -/
import Derived.Test.YtapahapjajijeaaLvF
namespace Go.Proofs.Ytapahapjajijeaa
open Go.RowKit

theorem small_at {ls : List (List Ch.Row)} (hs : Ch.lvSize ls ≤ 1048576) : ∀ i, (ls.getD i []).length ≤ 9223372036854775807 := fun i => by have := Ch.lv_leaf hs i; omega

theorem toLeafS_at (H : Nat) (a : Option Addr) (n cap : Nat) (ls : List (List Ch.Row)) (w : World) (hH : w.heap.size = H) (h : LvAt w a n ls) (hs : Ch.lvSize ls ≤ 1048576) :
    Calls Try.prog 47 #[.slice a n cap] w fun e w' => e = .returned (.slice (some ⟨H, 0, none⟩) n n) ∧ OwnLv w' H (.slice (some ⟨H, 0, none⟩) n n) n ls ∧ Below w.heap.size w w' := by
  subst hH
  exact toLeafS_any a n cap ls w h hs

set_option maxHeartbeats 400000 in
theorem lawLeaves_any (a : Option Addr) (n cap : Nat) (ls : List (List Ch.Row)) (w : World) (h : LvAt w a n ls) (hm : n ≤ 9223372036854775807) :
    Calls Try.prog 8 #[.slice a n cap] w fun e w' => e = .returned (.bool true) ∧ Below w.heap.size w w' := by
  by_cases hbig : 1048576 < Ch.lvSize ls
  · go_enter Try.func8, Try.ntmps8
    go_wp2_with fail
    refine (szLeafS_any a n cap ls _ h hm).mono ?_
    rintro e w1 ⟨rfl, b1⟩
    rw [← Ch.lvLeft_big hbig]
    go_wp2
    go_ret
    exact ⟨rfl, b1⟩
  · have hs : Ch.lvSize ls ≤ 1048576 := by omega
    have hl : Ch.lvLeft ls = 1048576 - (Ch.lvSize ls : Int) := by rw [Ch.lvLeft, if_pos hs]
    have hl0 : ¬ Ch.lvLeft ls < 0 := by omega
    have hcc : (Ch.leavesFault ls != Ch.leavesFault ls) = false := by simp
    have hsa := small_at hs
    clear hbig
    go_enter Try.func8, Try.ntmps8
    go_wp2_with fail
    refine (szLeafS_any a n cap ls _ h hm).mono ?_
    rintro e w0 ⟨rfl, b0⟩
    generalize Ch.lvLeft ls = L at *
    go_wp2_with fail
    refine (toLeafS_any a n cap ls _ (h.below b0) hs).mono ?_
    rintro e w1 ⟨rfl, o1, b1⟩
    have b1' := b0.trans (b1.mono b0.size)
    go_wp2_with fail
    refine (specLeaves_any _ n n ls _ (o1.at hsa) hs).mono ?_
    rintro e w2 ⟨rfl, b2⟩
    have b2' := b1'.trans (b2.mono b1'.size)
    go_wp2_with fail
    refine (toLeafS_any a n cap ls _ (h.below b2') hs).mono ?_
    rintro e w3 ⟨rfl, o3, b3⟩
    have b3' := b2'.trans (b3.mono b2'.size)
    go_wp2_with fail
    refine (implLeaves_any _ n n ls _ (o3.at hsa) hs).mono ?_
    rintro e w4 ⟨rfl, b4⟩
    have b4' := b3'.trans (b4.mono b3'.size)
    have o4 := o3.below b4
    go_wp2_with fail
    refine (toLeafS_any a n cap ls _ (h.below b4') hs).mono ?_
    rintro e w5 ⟨rfl, o5, b5⟩
    have b5' := b4'.trans (b5.mono b4'.size)
    have o4' := o4.below b5
    go_wp2_with fail
    refine (eqLeafS_same _ _ n n n ls _ (o4'.at hsa) (o5.at hsa) hs).mono ?_
    rintro e w6 ⟨rfl, b6⟩
    go_wp2
    go_ret
    exact ⟨rfl, b5'.trans (b6.mono b5'.size)⟩
end Go.Proofs.Ytapahapjajijeaa
