/- The law FnExactLocksFault. -/
import Derived.Test.YteblnejpohjjmaaLkT
namespace Go.Proofs.Yteblnejpohjjmaa
open Go.RowKit

theorem specLocks_any (a : Option Addr) (n cap : Nat) (ls : List Ch.Lock) (w : World) (h : LkAt w a n ls) (hs : Ch.lkSize ls ≤ 1048576) :
    Calls Try.prog 25 #[.slice a n cap] w fun e w' => e = .returned (.int .i64 (Ch.locksFault ls)) ∧ Below w.heap.size w w' := by
  go_enter Try.func25, Try.ntmps25
  go_wp2_with fail
  refine (l6Fault_any a n cap ls _ h hs).mono ?_
  rintro e w1 ⟨rfl, b1⟩
  go_wp2
  go_ret
  exact ⟨rfl, b1⟩

set_option maxHeartbeats 1000000 in
theorem lawLocks_any (a : Option Addr) (n cap : Nat) (ls : List Ch.Lock) (w : World) (h : LkAt w a n ls) (hm : n ≤ 9223372036854775807) :
    Calls Try.prog 5 #[.slice a n cap] w fun e w' => e = .returned (.bool true) ∧ Below w.heap.size w w' := by
  by_cases hbig : 1048576 < Ch.lkSize ls
  · go_enter Try.func5, Try.ntmps5
    go_wp2_with fail
    refine (szLockS_any a n cap ls _ h hm).mono ?_
    rintro e w1 ⟨rfl, b1⟩
    rw [← Ch.lkLeft_big hbig]
    go_wp2
    go_ret
    exact ⟨rfl, b1⟩
  · have hs : Ch.lkSize ls ≤ 1048576 := by omega
    have hl : Ch.lkLeft ls = 1048576 - (Ch.lkSize ls : Int) := by rw [Ch.lkLeft, if_pos hs]
    have hl0 : ¬ Ch.lkLeft ls < 0 := by omega
    clear hbig
    have SI := fun (W : World) (A : Option Addr) (hW : LkAt W A n ls) => specLocks_any A n n ls W hW hs
    have II := fun (W : World) (A : Option Addr) (hW : LkAt W A n ls) => implLocks_any A n n ls W hW hs
    generalize Ch.locksFault ls = c at SI II
    have hcc : (c != c) = false := by simp
    go_enter Try.func5, Try.ntmps5
    go_wp2_with fail
    refine (szLockS_any a n cap ls _ h hm).mono ?_
    rintro e w0 ⟨rfl, b0⟩
    generalize Ch.lkLeft ls = L at *
    go_wp2_with fail
    refine (toLockS_any a n cap ls _ (h.below b0) hs).mono ?_
    rintro e w1 ⟨rfl, o1, b1⟩
    have b1 := b0.trans (b1.mono b0.size)
    go_wp2_with fail
    refine (SI _ _ (o1.at hs)).mono ?_
    rintro e w2 ⟨rfl, b2⟩
    have b2 := b1.trans (b2.mono b1.size)
    clear b0 b1 o1
    go_wp2_with fail
    refine (toLockS_any a n cap ls _ (h.below b2) hs).mono ?_
    rintro e w3 ⟨rfl, o3, b3⟩
    have b3 := b2.trans (b3.mono b2.size)
    go_wp2_with fail
    refine (II _ _ (o3.at hs)).mono ?_
    rintro e w4 ⟨rfl, b4⟩
    have o4 := o3.below b4
    have b4 := b3.trans (b4.mono b3.size)
    clear b2 b3 o3
    go_wp2_with fail
    refine (toLockS_any a n cap ls _ (h.below b4) hs).mono ?_
    rintro e w5 ⟨rfl, o5, b5⟩
    have o4 := o4.below b5
    have b5 := b4.trans (b5.mono b4.size)
    go_wp2_with fail
    refine (eqLockS_same _ _ n n n ls _ (o4.at hs) (o5.at hs) hs).mono ?_
    rintro e w6 ⟨rfl, b6⟩
    go_wp2
    go_ret
    exact ⟨rfl, b5.trans (b6.mono b5.size)⟩
end Go.Proofs.Yteblnejpohjjmaa
