
/- The law FnExactLosersOf. -/
import Derived.Test.YtoijjjckdggglaaLosC
namespace Go.Proofs.Ytoijjjckdggglaa
open Go.RowKit

set_option maxHeartbeats 2000000 in
theorem lawLos_any (a : Option Addr) (n cap : Nat) (es : List Ch.Rec) (w : World) (h : CellsAt w a (n * 7) (rc7 es)) (hm : n ≤ 9223372036854775807) :
    Calls Try.prog 4 #[.slice a n cap] w fun e w' => e = .returned (.bool true) ∧ Below w.heap.size w w' := by
  by_cases hbig : 1048576 < n
  · have I0 := fun W => szRecS_any a n cap 1048576 W (Nat.le_refl _) hm
    rw [if_neg (by omega)] at I0
    go_enter Try.func4, Try.ntmps4
    go_wp2_with fail
    refine (I0 _).mono ?_
    rintro e w1 ⟨rfl, rfl⟩
    go_wp2
    go_ret
    exact ⟨rfl, Below.refl _ _⟩
  · have hs : n ≤ 1048576 := by omega
    have I0 := fun W => szRecS_any a n cap 1048576 W (Nat.le_refl _) hm
    rw [if_pos hs] at I0
    have hl0 : ¬ ((1048576 : Nat) : Int) - (n : Int) < 0 := by omega
    clear hbig
    have SI := fun (W : World) (A : Option Addr) (hW : CellsAt W A (n * 7) (rc7 es)) => specLos_any A n n es W hW hs
    have II := fun (W : World) (A : Option Addr) (hW : CellsAt W A (n * 7) (rc7 es)) => implLos_any A n n es W hW hs
    generalize (Ch.losR es).1 = c at SI II
    generalize (Ch.losR es).2 = rs at SI II
    generalize ((1048576 : Nat) : Int) - (n : Int) = L at *
    go_enter Try.func4, Try.ntmps4
    go_wp2_with fail
    refine (I0 _).mono ?_
    rintro e w0 ⟨rfl, hw0⟩
    obtain rfl := hw0.symm
    have b0 := Below.refl w.heap.size w
    go_wp2_with fail
    refine (toRecS_any a n cap es _ (h.below b0) hs).mono ?_
    rintro e w1 ⟨rfl, o1, b1⟩
    have b1' := b0.trans (b1.mono b0.size)
    go_wp2_with fail
    refine (SI _ _ (owns_cells o1)).mono ?_
    rintro e w2 ⟨a2, m2, c2, rfl, hm2, o2, b2⟩
    have L2 := owns_lt o2
    have b2' := b1'.trans (b2.mono b1'.size)
    have z0 := b0.size
    have z1 := b1.size
    have z2 := b2.size
    clear b0 b1 b2 o1
    go_wp2_with fail
    refine (toRecS_at (w2.heap.size + 1) a n cap es _ (by simp) (h.below (b2'.alloc b2'.size _)) hs).mono ?_
    rintro e w3 ⟨rfl, o3, b3⟩
    have b3w := below_box b3
    have b3' := b2'.trans (b3w.mono b2'.size)
    have o2 := owns_below o2 b3w
    have x0 := box_cell b3 0
    have x1 := box_cell b3 1
    simp at x0 x1
    have L3' := owns_lt o3
    have z3 := b3.size
    simp at z3
    go_wp2_with fail
    refine (II _ _ (owns_cells o3)).mono ?_
    rintro e w4 ⟨a4, m4, c4, rfl, hm4, o4, b4⟩
    have L4 := owns_lt o4
    have b4' := b3'.trans (b4.mono b3'.size)
    have bx := b4
    have o2 := owns_below o2 b4
    have x0 := keep_cell b4 x0
    have x1 := keep_cell b4 x1
    have z4 := b4.size
    have lt4 : w2.heap.size < w4.heap.size := by omega
    have HM : m4 = m2 := by have e2 := o2.1; have e4 := o4.1; omega
    subst HM
    have hq : ((1 + (m4 : Int)) != 1 + m4) = false := by simp
    clear b3 b3w b2'
    go_wp2_with fail
    refine (eqIntsResult_same _ a4 a2 m4 c4 c2 rs _ (owns_cells (o4.alloc _)) (owns_cells (o2.alloc _)) (by omega)).mono ?_
    rintro e w5 ⟨rfl, b5⟩
    have y0 := box_cell b5 0
    have y1 := box_cell b5 1
    simp at y0 y1
    have b5 := below_box b5
    have b5' := b4'.trans (b5.mono b4'.size)
    have bx := bx.trans (b5.mono bx.size)
    have o2 := owns_below o2 b5
    have o4 := owns_below o4 b5
    have x0 := keep_cell b5 x0
    have x1 := keep_cell b5 x1
    go_wp2_with fail
    refine (toRecS_any a n cap es _ (h.below b5') hs).mono ?_
    rintro e w6 ⟨rfl, o6, b6⟩
    have b6' := b5'.trans (b6.mono b5'.size)
    have bx := bx.trans (b6.mono bx.size)
    have o2 := owns_below o2 b6
    have o4 := owns_below o4 b6
    have x0 := keep_cell b6 x0
    have x1 := keep_cell b6 x1
    have y0 := keep_cell b6 y0
    have y1 := keep_cell b6 y1
    go_wp2_with fail
    refine (eqRecS_same _ _ n n n es _ (owns_cells (owns_below o3 bx)) (owns_cells o6) hs).mono ?_
    rintro e w7 ⟨rfl, b7⟩
    have b7' := b6'.trans (b7.mono b6'.size)
    have bx := bx.trans (b7.mono bx.size)
    have o2 := owns_below o2 b7
    have o4 := owns_below o4 b7
    have x0 := keep_cell b7 x0
    have x1 := keep_cell b7 x1
    have y0 := keep_cell b7 y0
    have y1 := keep_cell b7 y1
    clear o6 b6' b6 b5 b5' b4 b4' b3'
    go_wp2_with fail
    have o3 := owns_below o3 bx
    have L3 := owns_lt o3
    refine (markRecS_any 1 _ n _ n es _ (by decide) (by decide) o3 (by omega)).mono ?_
    rintro e w8 ⟨rfl, _, gr8⟩
    have hk0 : ¬ (1 + 7 * (n : Int)) < 0 := by omega
    generalize (1 + 7 * (n : Int)) = kk at *
    have b8' := b7'.grown gr8 b7'.size (by intro k hk; have := L3 k hk; omega)
    have o2 := owns_grown o2 gr8 (fun g hg hk => by have := L2 g hg; have := L3 g hk; omega)
    have o4 := owns_grown o4 gr8 (fun g hg hk => by have := L4 g hg; have := L3' g hk; omega)
    have x0 := grown_cell gr8 x0 (fun hk => by have := L3 _ hk; omega)
    have x1 := grown_cell gr8 x1 (fun hk => by have := L3 _ hk; omega)
    have y0 := grown_cell gr8 y0 (fun hk => by have := L3' _ hk; omega)
    have y1 := grown_cell gr8 y1 (fun hk => by have := L3' _ hk; omega)
    clear b7' b7 o3 gr8 bx
    go_wp2_with fail
    refine (eqIntsResult_same _ a4 a2 m4 c4 c2 rs _ (owns_cells o4) (owns_cells o2) (by omega)).mono ?_
    rintro e w9 ⟨rfl, b9⟩
    have b9' := b8'.trans (b9.mono b8'.size)
    have o2 := owns_below o2 b9
    have o4 := owns_below o4 b9
    have x0 := keep_cell b9 x0
    have x1 := keep_cell b9 x1
    have y0 := keep_cell b9 y0
    have y1 := keep_cell b9 y1
    clear b8' b9
    go_wp2_with fail
    refine (markIntsResult_any _ _ a4 m4 c4 rs _ o4 (by omega)).mono ?_
    rintro e w10 ⟨rfl, o5, gr10⟩
    have b10' := b9'.grown gr10 b9'.size (by intro k hk; have := L4 k hk; omega)
    have o2 := owns_grown o2 gr10 (fun g hg hk => by have := L2 g hg; have := L4 g hk; omega)
    have x0 := grown_cell gr10 x0 (fun hk => by have := L4 _ hk; omega)
    have x1 := grown_cell gr10 x1 (fun hk => by have := L4 _ hk; omega)
    have y0 := grown_cell gr10 y0 (fun hk => by have := L4 _ hk; omega)
    have y1 := grown_cell gr10 y1 (fun hk => by have := L4 _ hk; omega)
    clear b9' gr10 o4
    go_wp2_with fail
    refine (heldIntsResult_any _ a4 m4 c4 _ (owns_cells o5) (by omega)).mono ?_
    rintro e w11 ⟨rfl, b11⟩
    have b11' := b10'.trans (b11.mono b10'.size)
    have o2 := owns_below o2 b11
    have o5 := owns_below o5 b11
    have x0 := keep_cell b11 x0
    have x1 := keep_cell b11 x1
    have y0 := keep_cell b11 y0
    have y1 := keep_cell b11 y1
    clear b10' b11
    go_wp2_with fail
    refine (toRecS_any a n cap es _ (h.below b11') hs).mono ?_
    rintro e w12 ⟨rfl, o12, b12⟩
    have b12' := b11'.trans (b12.mono b11'.size)
    have o2 := owns_below o2 b12
    have o5 := owns_below o5 b12
    have x0 := keep_cell b12 x0
    have x1 := keep_cell b12 x1
    have y0 := keep_cell b12 y0
    have y1 := keep_cell b12 y1
    clear b11' b12
    go_wp2_with fail
    refine (II _ _ (owns_cells o12)).mono ?_
    rintro e w13 ⟨a13, m13, c13, rfl, hm13, o13, b13⟩
    have b13' := b12'.trans (b13.mono b12'.size)
    have o2 := owns_below o2 b13
    have o5 := owns_below o5 b13
    have x0 := keep_cell b13 x0
    have x1 := keep_cell b13 x1
    have y0 := keep_cell b13 y0
    have y1 := keep_cell b13 y1
    have HM : m13 = m4 := by have e2 := o2.1; have e4 := o13.1; omega
    subst HM
    have l1 := lt_of_cell x0
    have l2 := lt_of_cell y0
    clear b12' b13 o12
    go_wp2_with fail
    refine (eqIntsResult_same _ a13 a2 m13 c13 c2 rs _ (owns_cells (o13.alloc _)) (owns_cells (o2.alloc _)) (by omega)).mono ?_
    rintro e w14 ⟨rfl, b14⟩
    have b14 := below_box b14
    have b14' := b13'.trans (b14.mono b13'.size)
    have o5 := owns_below o5 b14
    have y0 := keep_cell b14 y0
    have y1 := keep_cell b14 y1
    clear b13' b14
    go_wp2_with fail
    refine (heldIntsResult_any _ a4 m13 c4 _ (owns_cells o5) (by omega)).mono ?_
    rintro e w15 ⟨rfl, b15⟩
    go_wp2
    go_ret
    exact ⟨rfl, b14'.trans (b15.mono b14'.size)⟩
end Go.Proofs.Ytoijjjckdggglaa
