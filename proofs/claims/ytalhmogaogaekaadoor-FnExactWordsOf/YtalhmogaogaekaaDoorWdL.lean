/- The law FnExactWordsOf. -/
import Derived.Test.YtalhmogaogaekaaDoorWdJ
import Derived.Test.YtalhmogaogaekaaDoorWdT
import Derived.Test.YtalhmogaogaekaaDoorStrB
namespace Go.Proofs.YtalhmogaogaekaaDoor
open Go.RowKit Go.Shelf

set_option maxHeartbeats 2000000 in
theorem lawWords_any (s : ByteArray) (w : World) (m : Int) (hm : w.cell? ⟨Tryd.lays7_ren.g 2, 0, none⟩ = some (.int .i64 m)) :
    Calls Tryd.prog 4 #[.string s] w fun e w' => e = .returned (.bool true) ∧ Below w.heap.size w w' := by
  by_cases hbig : 1048576 < s.size
  · have hl : (1048576 : Int) < (s.size : Int) := by omega
    go_enter Tryd.func4, Tryd.ntmps4
    go_wp2
    go_ret
    exact ⟨rfl, Below.refl _ _⟩
  · have hs : s.size ≤ 1048576 := by omega
    have hl : ¬ (1048576 : Int) < (s.size : Int) := by omega
    have SI := fun W => specWords_any s W hs
    have II := fun W h => implWords_any s W hs m h
    generalize Ch.words s = rs at SI II
    clear hbig
    go_enter Tryd.func4, Tryd.ntmps4
    go_wp2_with fail
    refine (SI _).mono ?_
    rintro e w2 ⟨a2, m2, c2, rfl, hm2, o2, b2⟩
    have L2 := owns_lt o2
    have z2 := b2.size
    have b2' := b2
    have kb : Below w2.heap.size w2 (w2.alloc (.cells #[.int .i64 0, .slice a2 m2 c2] 33)) := (Below.refl _ _).alloc (Nat.le_refl _) _
    have hm3 := keep_cell kb (keep_cell b2 hm)
    clear kb
    go_wp2_with fail
    refine (II _ hm3).mono ?_
    rintro e w4 ⟨a4, m4, c4, rfl, hm4, o4, b4⟩
    have x0 := box_cell b4 0
    have x1 := box_cell b4 1
    simp at x0 x1
    have b4w := below_box b4
    have b4' := b2'.trans (b4w.mono b2'.size)
    have o2 := owns_below o2 b4w
    have L4 := owns_lt o4
    have z4 := b4.size
    simp at z4
    have lt4 : w2.heap.size < w4.heap.size := by omega
    have HM : m4 = m2 := by have e2 := o2.1; have e4 := o4.1; omega
    subst HM
    have hq : ((1 + (m4 : Int)) != 1 + m4) = false := by simp
    have hm4c := keep_cell b4w (keep_cell b2 hm)
    clear b4 b2'
    go_wp2_with fail
    refine (eqWords_same _ a4 a2 m4 c4 c2 rs _ (owns_cells (o4.alloc _)) (owns_cells (o2.alloc _)) (by omega)).mono ?_
    rintro e w5 ⟨rfl, b5⟩
    have y0 := box_cell b5 0
    have y1 := box_cell b5 1
    simp at y0 y1
    have b5 := below_box b5
    have b9' := b4'.trans (b5.mono b4'.size)
    have o2 := owns_below o2 b5
    have o4 := owns_below o4 b5
    have x0 := keep_cell b5 x0
    have x1 := keep_cell b5 x1
    have hmc := keep_cell b5 hm4c
    clear b4' b5 hm4c b4w
    go_wp2_with fail
    refine (markWords_any _ _ a4 m4 c4 rs _ o4 (by omega)).mono ?_
    rintro e w10 ⟨rfl, o5, gr10⟩
    have b10' := b9'.grown gr10 b9'.size (by intro k hk; have := L4 k hk; simp at this; omega)
    have o2 := owns_grown o2 gr10 (fun g hg hk => by have := L2 g hg; have := L4 g hk; simp at this; omega)
    have x0 := grown_cell gr10 x0 (fun hk => by have := L4 _ hk; simp at this; omega)
    have x1 := grown_cell gr10 x1 (fun hk => by have := L4 _ hk; simp at this; omega)
    have y0 := grown_cell gr10 y0 (fun hk => by have := L4 _ hk; omega)
    have y1 := grown_cell gr10 y1 (fun hk => by have := L4 _ hk; omega)
    have lm := lt_of_cell hm
    have hmc := grown_cell gr10 hmc (fun hk => by have := L4 _ hk; simp at this; omega)
    clear b9' gr10 o4
    go_wp2_with fail
    refine (heldWords_any _ a4 m4 c4 _ (owns_cells o5) (by omega)).mono ?_
    rintro e w11 ⟨rfl, b11⟩
    have b12' := b10'.trans (b11.mono b10'.size)
    have o2 := owns_below o2 b11
    have o5 := owns_below o5 b11
    have x0 := keep_cell b11 x0
    have x1 := keep_cell b11 x1
    have y0 := keep_cell b11 y0
    have y1 := keep_cell b11 y1
    have hmc := keep_cell b11 hmc
    clear b10' b11
    go_wp2_with fail
    refine (II _ hmc).mono ?_
    rintro e w13 ⟨a13, m13, c13, rfl, hm13, o13, b13⟩
    have b13' := b12'.trans (b13.mono b12'.size)
    have o2 := owns_below o2 b13
    have o5 := owns_below o5 b13
    have x0 := keep_cell b13 x0
    have x1 := keep_cell b13 x1
    have y0 := keep_cell b13 y0
    have y1 := keep_cell b13 y1
    have HM : m13 = m4 := by have e2 := o2.1; have e4 := o13.1; omega
    subst HM
    have l1 := lt_of_cell x0
    have l2 := lt_of_cell y0
    clear b12' b13
    go_wp2_with fail
    refine (eqWords_same _ a13 a2 m13 c13 c2 rs _ (owns_cells (o13.alloc _)) (owns_cells (o2.alloc _)) (by omega)).mono ?_
    rintro e w14 ⟨rfl, b14⟩
    have b14 := below_box b14
    have b14' := b13'.trans (b14.mono b13'.size)
    have o5 := owns_below o5 b14
    have y0 := keep_cell b14 y0
    have y1 := keep_cell b14 y1
    clear b13' b14
    go_wp2_with fail
    refine (heldWords_any _ a4 m13 c4 _ (owns_cells o5) (by omega)).mono ?_
    rintro e w15 ⟨rfl, b15⟩
    go_wp2
    go_ret
    exact ⟨rfl, b14'.trans (b15.mono b14'.size)⟩
end Go.Proofs.YtalhmogaogaekaaDoor
