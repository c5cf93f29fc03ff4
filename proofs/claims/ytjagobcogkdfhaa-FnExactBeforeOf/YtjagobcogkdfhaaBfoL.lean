
/- The law FnExactBeforeOf. -/
import Derived.Test.YtjagobcogkdfhaaValW
namespace Go.Proofs.Ytjagobcogkdfhaa
open Go.RowKit

set_option maxHeartbeats 400000 in
theorem lawBeforeOf_any (a : Option Addr) (n cap : Nat) (key : Int) (ls : List (List Ch.Row)) (w : World) (h : LvAt w a n ls) (hm : n ≤ 9223372036854775807) :
    Calls Try.prog 15 #[.slice a n cap, .int .i64 key] w fun e w' => e = .returned (.bool true) ∧ Below w.heap.size w w' := by
  by_cases hbig : 1048576 < Ch.lvSize ls
  · go_enter Try.func15, Try.ntmps15
    go_wp2_with fail
    refine (szLeafS_any a n cap ls _ h hm).mono ?_
    rintro e w1 ⟨rfl, b1⟩
    rw [← Ch.lvLeft_big hbig]
    go_wp2
    go_ret
    exact ⟨rfl, b1⟩
  · have hs : Ch.lvSize ls ≤ 1048576 := by omega
    have hl : Ch.lvLeft ls = 1048576 - (Ch.lvSize ls : Int) := by rw [Ch.lvLeft, if_pos hs]
    have hl0 : ¬ Ch.lvLeft ls < 0 := by omega
    have hsa := small_at hs
    clear hbig
    go_enter Try.func15, Try.ntmps15
    go_wp2_with fail
    refine (szLeafS_any a n cap ls _ h hm).mono ?_
    rintro e w0 ⟨rfl, b0⟩
    generalize Ch.lvLeft ls = L at *
    go_wp2_with fail
    refine (toLeafS_any a n cap ls _ (h.below b0) hs).mono ?_
    rintro e w1 ⟨rfl, o1, b1⟩
    have b1' := b0.trans (b1.mono b0.size)
    go_wp2_with fail
    refine (specBeforeOf_any _ n n key ls _ (o1.at hsa) hs).mono ?_
    rintro e w2 ⟨rfl, b2⟩
    have b2' := b1'.trans (b2.mono b1'.size)
    have TI := fun (H : Nat) (W : World) (hH : W.heap.size = H) (hW : LvAt W a n ls) => toLeafS_at H a n cap ls W hH hW hs
    have II := fun (W : World) (A : Option Addr) (hW : LvAt W A n ls) => implBeforeOf_any A n n key ls W hW hs
    generalize Ch.bfOf ls key = r at *
    obtain ⟨rk, rh, rv⟩ := r
    go_wp2_with fail
    refine (TI (w2.heap.size + 1) _ (by simp) (h.below (b2'.alloc b2'.size _))).mono ?_
    rintro e w3 ⟨rfl, o3, b3⟩
    have b3' := (b2'.alloc b2'.size _).trans (b3.mono (by have := b2'.size; simp; omega))
    obtain ⟨u0, u1, u2, _, _, _⟩ := three_box b3
    go_wp2_with fail
    refine (II _ _ (o3.at hsa)).mono ?_
    rintro e w4 ⟨rfl, b4⟩
    have b4' := b3'.trans (b4.mono b3'.size)
    have o4 := o3.below b4
    replace u0 := keep_cell b4 u0
    replace u1 := keep_cell b4 u1
    replace u2 := keep_cell b4 u2
    have hu := lt_of_cell u0
    go_wp2_with fail
    refine (eqBef_same _ _ _ _).mono ?_
    rintro e w5 ⟨rfl, b5⟩
    have b5' := (b4'.alloc b4'.size _).trans (b5.mono (by have := b4'.size; simp; omega))
    have o5 := o4.below (below_box b5)
    go_wp2_with fail
    refine (TI w5.heap.size _ rfl (h.below b5')).mono ?_
    rintro e w6 ⟨rfl, o6, b6⟩
    have b6' := b5'.trans (b6.mono b5'.size)
    have o5' := o5.below b6
    go_wp2_with fail
    refine (eqLeafS_same _ _ n n n ls _ (o5'.at hsa) (o6.at hsa) hs).mono ?_
    rintro e w7 ⟨rfl, b7⟩
    go_wp2
    go_ret
    exact ⟨rfl, b6'.trans (b7.mono b6'.size)⟩
end Go.Proofs.Ytjagobcogkdfhaa
