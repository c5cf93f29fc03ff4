/- The laws FnExactModeOf and FnExactWaitsAt. -/
import Derived.Test.YteblnejpohjjmaaLkX
namespace Go.Proofs.Yteblnejpohjjmaa
open Go.RowKit

theorem eqInt_same (c v : Int) (w : World) :
    Calls Try.prog 33 #[.agg #[.int .i64 c, .int .i64 v], .agg #[.int .i64 c, .int .i64 v]] w fun e w' => e = .returned (.bool true) ∧ Below w.heap.size w w' := by
  have h0 : (c != c) = false := by simp
  have h1 : (v != v) = false := by simp
  go_enter Try.func33, Try.ntmps33
  go_wp2
  go_ret
  exact ⟨rfl, ((Below.refl _ _).alloc (Nat.le_refl _) _).alloc (by simp) _⟩

set_option maxHeartbeats 1000000 in
theorem lawModeOf_any (a : Option Addr) (n cap : Nat) (t res : Int) (ls : List Ch.Lock) (w : World) (h : LkAt w a n ls) (hm : n ≤ 9223372036854775807) :
    Calls Try.prog 8 #[.slice a n cap, .int .i64 t, .int .i64 res] w fun e w' => e = .returned (.bool true) ∧ Below w.heap.size w w' := by
  by_cases hbig : 1048576 < Ch.lkSize ls
  · go_enter Try.func8, Try.ntmps8
    go_wp2_with fail
    refine (szLockS_any a n cap ls _ h hm).mono ?_
    rintro e w1 ⟨rfl, b1⟩
    rw [← Ch.lkLeft_big hbig]
    go_wp2
    go_ret
    exact ⟨rfl, b1⟩
  · have hs : Ch.lkSize ls ≤ 1048576 := by omega
    have hl : Ch.lkLeft ls = 1048576 - (Ch.lkSize ls : Int) := by rw [Ch.lkLeft, if_pos hs]
    have hl0 : ¬ Ch.lkLeft ls < 0 := by omega
    clear hbig
    have SI := fun (W : World) (A : Option Addr) (hW : LkAt W A n ls) => specModeOf_any A n n t res ls W hW hs
    have II := fun (W : World) (A : Option Addr) (hW : LkAt W A n ls) => implModeOf_any A n n t res ls W hW hs
    generalize (Ch.modeR ls t res).1 = c at SI II
    generalize (Ch.modeR ls t res).2 = v at SI II
    go_enter Try.func8, Try.ntmps8
    go_wp2_with fail
    refine (szLockS_any a n cap ls _ h hm).mono ?_
    rintro e w0 ⟨rfl, b0⟩
    generalize Ch.lkLeft ls = L at *
    go_wp2_with fail
    refine (toLockS_any a n cap ls _ (h.below b0) hs).mono ?_
    rintro e w1 ⟨rfl, o1, b1⟩
    have b1 := b0.trans (b1.mono b0.size)
    go_wp2_with fail
    refine (SI _ _ (o1.at hs)).mono ?_
    rintro e w2 ⟨rfl, b2⟩
    have b2 := b1.trans (b2.mono b1.size)
    clear b0 b1 o1
    go_wp2_with fail
    refine (toLockS_at (w2.heap.size + 1) a n cap ls _ (by simp) (h.below (b2.alloc b2.size _)) hs).mono ?_
    rintro e w3 ⟨rfl, o3, b3⟩
    have x0 := box_cell b3 0
    have x1 := box_cell b3 1
    simp only [List.getElem?_toArray, List.getElem?_cons_zero, List.getElem?_cons_succ] at x0 x1
    have b3 := below_box b3
    have b3' := b2.trans (b3.mono b2.size)
    go_wp2_with fail
    refine (II _ _ (o3.at hs)).mono ?_
    rintro e w4 ⟨rfl, b4⟩
    have o4 := (o3.below b4).below ((Below.refl _ _).alloc (Nat.le_refl _) (.cells #[.int .i64 c, .int .i64 v] 32))
    have x0 := keep_cell b4 x0
    have x1 := keep_cell b4 x1
    have l0 := lt_of_cell x0
    have b4' := b3'.trans (b4.mono b3'.size)
    have b4' := b4'.alloc b4'.size (.cells #[.int .i64 c, .int .i64 v] 32)
    clear b2 b3 o3 b3' b4
    go_wp2_with fail
    refine (eqInt_same c v _).mono ?_
    rintro e w5 ⟨rfl, b5⟩
    have o5 := o4.below b5
    have b5 := b4'.trans (b5.mono b4'.size)
    clear o4 b4' x0 x1
    go_wp2_with fail
    refine (toLockS_any a n cap ls _ (h.below b5) hs).mono ?_
    rintro e w6 ⟨rfl, o6, b6⟩
    have o5 := o5.below b6
    have b6 := b5.trans (b6.mono b5.size)
    go_wp2_with fail
    refine (eqLockS_same _ _ n n n ls _ (o5.at hs) (o6.at hs) hs).mono ?_
    rintro e w7 ⟨rfl, b7⟩
    go_wp2
    go_ret
    exact ⟨rfl, b6.trans (b7.mono b6.size)⟩

set_option maxHeartbeats 1000000 in
theorem lawWaitsAt_any (a : Option Addr) (n cap : Nat) (t : Int) (ls : List Ch.Lock) (w : World) (h : LkAt w a n ls) (hm : n ≤ 9223372036854775807) :
    Calls Try.prog 9 #[.slice a n cap, .int .i64 t] w fun e w' => e = .returned (.bool true) ∧ Below w.heap.size w w' := by
  by_cases hbig : 1048576 < Ch.lkSize ls
  · go_enter Try.func9, Try.ntmps9
    go_wp2_with fail
    refine (szLockS_any a n cap ls _ h hm).mono ?_
    rintro e w1 ⟨rfl, b1⟩
    rw [← Ch.lkLeft_big hbig]
    go_wp2
    go_ret
    exact ⟨rfl, b1⟩
  · have hs : Ch.lkSize ls ≤ 1048576 := by omega
    have hl : Ch.lkLeft ls = 1048576 - (Ch.lkSize ls : Int) := by rw [Ch.lkLeft, if_pos hs]
    have hl0 : ¬ Ch.lkLeft ls < 0 := by omega
    clear hbig
    have SI := fun (W : World) (A : Option Addr) (hW : LkAt W A n ls) => specWaitsAt_any A n n t ls W hW hs
    have II := fun (W : World) (A : Option Addr) (hW : LkAt W A n ls) => implWaitsAt_any A n n t ls W hW hs
    generalize (Ch.waitsR ls t).1 = c at SI II
    generalize (Ch.waitsR ls t).2 = v at SI II
    go_enter Try.func9, Try.ntmps9
    go_wp2_with fail
    refine (szLockS_any a n cap ls _ h hm).mono ?_
    rintro e w0 ⟨rfl, b0⟩
    generalize Ch.lkLeft ls = L at *
    go_wp2_with fail
    refine (toLockS_any a n cap ls _ (h.below b0) hs).mono ?_
    rintro e w1 ⟨rfl, o1, b1⟩
    have b1 := b0.trans (b1.mono b0.size)
    go_wp2_with fail
    refine (SI _ _ (o1.at hs)).mono ?_
    rintro e w2 ⟨rfl, b2⟩
    have b2 := b1.trans (b2.mono b1.size)
    clear b0 b1 o1
    go_wp2_with fail
    refine (toLockS_at (w2.heap.size + 1) a n cap ls _ (by simp) (h.below (b2.alloc b2.size _)) hs).mono ?_
    rintro e w3 ⟨rfl, o3, b3⟩
    have x0 := box_cell b3 0
    have x1 := box_cell b3 1
    simp only [List.getElem?_toArray, List.getElem?_cons_zero, List.getElem?_cons_succ] at x0 x1
    have b3 := below_box b3
    have b3' := b2.trans (b3.mono b2.size)
    go_wp2_with fail
    refine (II _ _ (o3.at hs)).mono ?_
    rintro e w4 ⟨rfl, b4⟩
    have o4 := (o3.below b4).below ((Below.refl _ _).alloc (Nat.le_refl _) (.cells #[.int .i64 c, .int .i64 v] 32))
    have x0 := keep_cell b4 x0
    have x1 := keep_cell b4 x1
    have l0 := lt_of_cell x0
    have b4' := b3'.trans (b4.mono b3'.size)
    have b4' := b4'.alloc b4'.size (.cells #[.int .i64 c, .int .i64 v] 32)
    clear b2 b3 o3 b3' b4
    go_wp2_with fail
    refine (eqInt_same c v _).mono ?_
    rintro e w5 ⟨rfl, b5⟩
    have o5 := o4.below b5
    have b5 := b4'.trans (b5.mono b4'.size)
    clear o4 b4' x0 x1
    go_wp2_with fail
    refine (toLockS_any a n cap ls _ (h.below b5) hs).mono ?_
    rintro e w6 ⟨rfl, o6, b6⟩
    have o5 := o5.below b6
    have b6 := b5.trans (b6.mono b5.size)
    go_wp2_with fail
    refine (eqLockS_same _ _ n n n ls _ (o5.at hs) (o6.at hs) hs).mono ?_
    rintro e w7 ⟨rfl, b7⟩
    go_wp2
    go_ret
    exact ⟨rfl, b6.trans (b7.mono b6.size)⟩

end Go.Proofs.Yteblnejpohjjmaa
