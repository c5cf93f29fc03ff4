
/- The law FnExactSetValue. -/
import Derived.Test.YtjagobcogkdfhaaSetS
import Derived.Test.YtjagobcogkdfhaaSetQ
namespace Go.Proofs.Ytjagobcogkdfhaa
open Go.RowKit

set_option maxHeartbeats 2000000 in
theorem lawSetValue_any (a : Option Addr) (n cap : Nat) (tx key : Int) (has : Bool) (v : Int) (ls : List (List Ch.Row)) (w : World) (h : LvAt w a n ls) (hm : n ≤ 9223372036854775807) :
    Calls Try.prog 12 #[.slice a n cap, .int .i64 tx, .int .i64 key, .bool has, .int .i64 v] w fun e w' => e = .returned (.bool true) ∧ Below w.heap.size w w' := by
  by_cases hbig : 1048576 < Ch.lvSize ls
  · go_enter Try.func12, Try.ntmps12
    go_wp2_with fail
    refine (szLeafS_any a n cap ls _ h hm).mono ?_
    rintro e w1 ⟨rfl, b1⟩
    rw [← Ch.lvLeft_big hbig]
    go_wp2
    go_ret
    exact ⟨rfl, b1⟩
  · have hs : Ch.lvSize ls ≤ 1048576 := by omega
    have hl : Ch.lvLeft ls = 1048576 - (Ch.lvSize ls : Int) := by rw [Ch.lvLeft, if_pos hs]
    have hl0 : ¬ Ch.lvLeft ls < 0 := by omega
    have hsa := small_at hs
    clear hbig
    have SI := fun (W : World) (A : Option Addr) (hW : LvAt W A n ls) => specSetValue_any A n n tx key has v ls W hW hs
    have II := fun (W : World) (A : Option Addr) (hW : LvAt W A n ls) => implSetValue_any A n n tx key has v ls W hW hs
    have hrs := (Ch.setR_small (ls := ls) (tx := tx) (key := key) (v := v) (has := has)).1
    have hqs := (Ch.setR_small (ls := ls) (tx := tx) (key := key) (v := v) (has := has)).2
    generalize (Ch.setR ls tx key has v).1 = c at SI II
    generalize (Ch.setR ls tx key has v).2.1 = rs at SI II hrs
    generalize (Ch.setR ls tx key has v).2.2 = qs at SI II hqs
    go_enter Try.func12, Try.ntmps12
    go_wp2_with fail
    refine (szLeafS_any a n cap ls _ h hm).mono ?_
    rintro e w0 ⟨rfl, b0⟩
    generalize Ch.lvLeft ls = L at *
    go_wp2_with fail
    refine (toLeafS_any a n cap ls _ (h.below b0) hs).mono ?_
    rintro e w1 ⟨rfl, o1, b1⟩
    have b1' := b0.trans (b1.mono b0.size)
    go_wp2_with fail
    refine (SI _ _ (o1.at hsa)).mono ?_
    rintro e w2 ⟨a2, m2, c2, r2, p2, q2, rfl, o2, b2⟩
    have HL2 := hid o2.len
    have b2' := b1'.trans (b2.mono b1'.size)
    have z0 := b0.size
    have z1 := b1.size
    have z2 := b2.size
    clear b0 b1 b2 o1
    go_wp2_with fail
    refine (toLeafS_at (w2.heap.size + 1) a n cap ls _ (by simp) (h.below (b2'.alloc b2'.size _)) hs).mono ?_
    rintro e w3 ⟨rfl, o3, b3⟩
    have b3w := below_box b3
    have bk := b3w
    have b3' := b2'.trans (b3w.mono b2'.size)
    have x0 := box_cell b3 0
    have x1 := box_cell b3 1
    have x2 := box_cell b3 2
    simp at x0 x1 x2
    have z3 := b3.size
    simp at z3
    go_wp2_with fail
    refine (II _ _ (o3.at hsa)).mono ?_
    rintro e w4 ⟨a4, m4, c4, r4, p4, q4, rfl, o4, b4⟩
    have b4' := b3'.trans (b4.mono b3'.size)
    have o4 := o4.top
    have Bn : ∀ (W : World) o, Below W.heap.size W (W.alloc o) := fun W o => (Below.refl _ _).alloc (Nat.le_refl _) o
    have bx := b4
    have bk := bk.trans (b4.mono bk.size)
    have x0 := keep_cell b4 x0
    have x1 := keep_cell b4 x1
    have x2 := keep_cell b4 x2
    have z4 := b4.size
    have lt4 : w2.heap.size < w4.heap.size := by omega
    obtain ⟨HM, HP⟩ : m4 = m2 ∧ p4 = p2 := by have e2 := HL2.out; have e4 := o4.own.len; omega
    subst HM HP
    have hp1 : p4 ≤ 1048576 := by have := HL2.out; omega
    generalize hKK : (1 + 3 * (Ch.before rs m4 : Int) + 7 * p4) = KK
    have hq : (KK != KK) = false := by simp
    have hK0 : ¬ KK < 0 := by omega
    clear b3 b3w b2'
    go_wp2_with fail
    refine (eqUndo_same c _ _ a4 a2 r4 r2 m4 c4 c2 p4 q4 q2 rs qs _ (o4.below (Bn _ _)).own ((o2.below bk).below (Bn _ _)) hrs hp1).mono ?_
    rintro e w5 ⟨rfl, b5⟩
    have y0 := box_cell b5 0
    have y1 := box_cell b5 1
    have y2 := box_cell b5 2
    simp at y0 y1 y2
    have b5 := below_box b5
    have b5' := b4'.trans (b5.mono b4'.size)
    have bx := bx.trans (b5.mono bx.size)
    have bk := bk.trans (b5.mono bk.size)
    have o4 := o4.below b5
    have x0 := keep_cell b5 x0
    have x1 := keep_cell b5 x1
    have x2 := keep_cell b5 x2
    go_wp2_with fail
    refine (toLeafS_any a n cap ls _ (h.below b5') hs).mono ?_
    rintro e w6 ⟨rfl, o6, b6⟩
    have b6' := b5'.trans (b6.mono b5'.size)
    have bx := bx.trans (b6.mono bx.size)
    have bk := bk.trans (b6.mono bk.size)
    have o4 := o4.below b6
    have x0 := keep_cell b6 x0
    have x1 := keep_cell b6 x1
    have x2 := keep_cell b6 x2
    have y0 := keep_cell b6 y0
    have y1 := keep_cell b6 y1
    have y2 := keep_cell b6 y2
    go_wp2_with fail
    refine (eqLeafS_same _ _ n n n ls _ ((o3.below bx).at hsa) (o6.at hsa) hs).mono ?_
    rintro e w7 ⟨rfl, b7⟩
    have b7' := b6'.trans (b7.mono b6'.size)
    have bx := bx.trans (b7.mono bx.size)
    have bk := bk.trans (b7.mono bk.size)
    have o4 := o4.below b7
    have x0 := keep_cell b7 x0
    have x1 := keep_cell b7 x1
    have x2 := keep_cell b7 x2
    have y0 := keep_cell b7 y0
    have y1 := keep_cell b7 y1
    have y2 := keep_cell b7 y2
    clear o6 b6' b6 b5 b5' b4 b4' b3'
    go_wp2_with fail
    refine (markLeafS_any _ _ n n ls w3 _ o3 bx hs).mono ?_
    rintro e w8 ⟨rfl, _, wi8⟩
    have hk0 : ¬ (1 + 3 * (Ch.before ls n : Int)) < 0 := by omega
    generalize (1 + 3 * (Ch.before ls n : Int)) = kk at *
    have b8' := b7'.trans (wi8.toBelow (B := w.heap.size) (by omega) b7'.size)
    have bk := bk.trans (wi8.toBelow (B := w2.heap.size) (by omega) bk.size)
    have o4 := o4.within wi8 (Nat.le_refl _)
    have x0 := within_cell wi8 x0 (by omega)
    have x1 := within_cell wi8 x1 (by omega)
    have x2 := within_cell wi8 x2 (by omega)
    have y0 := within_cell wi8 y0 (by omega)
    have y1 := within_cell wi8 y1 (by omega)
    have y2 := within_cell wi8 y2 (by omega)
    clear b7' b7 o3 wi8 bx
    go_wp2_with fail
    refine (eqUndo_same c _ _ a4 a2 r4 r2 m4 c4 c2 p4 q4 q2 rs qs _ o4.own (o2.below bk) hrs hp1).mono ?_
    rintro e w9 ⟨rfl, b9⟩
    have b9' := b8'.trans (b9.mono b8'.size)
    have bk := bk.trans (b9.mono bk.size)
    have o4 := o4.below b9
    have x0 := keep_cell b9 x0
    have x1 := keep_cell b9 x1
    have x2 := keep_cell b9 x2
    have y0 := keep_cell b9 y0
    have y1 := keep_cell b9 y1
    have y2 := keep_cell b9 y2
    clear b8' b9
    go_wp2_with fail
    refine (markUndo_any c _ _ a4 r4 m4 c4 p4 q4 rs qs _ o4 hrs hp1).mono ?_
    rintro e w10 ⟨rfl, o5, wi10⟩
    rw [hKK]
    have b10' := b9'.trans (wi10.toBelow (B := w.heap.size) (by omega) b9'.size)
    have bk := bk.trans (wi10.toBelow (B := w2.heap.size) (by omega) bk.size)
    have x0 := within_cell wi10 x0 (by omega)
    have x1 := within_cell wi10 x1 (by omega)
    have x2 := within_cell wi10 x2 (by omega)
    have y0 := within_cell wi10 y0 (by omega)
    have y1 := within_cell wi10 y1 (by omega)
    have y2 := within_cell wi10 y2 (by omega)
    clear b9' wi10 o4
    go_wp2_with fail
    refine (heldUndo_any c _ a4 r4 m4 c4 p4 q4 rs _ o5.own hrs hp1).mono ?_
    rintro e w11 ⟨rfl, b11⟩
    rw [hKK]
    have b11' := b10'.trans (b11.mono b10'.size)
    have bk := bk.trans (b11.mono bk.size)
    have o5 := o5.below b11
    have x0 := keep_cell b11 x0
    have x1 := keep_cell b11 x1
    have x2 := keep_cell b11 x2
    have y0 := keep_cell b11 y0
    have y1 := keep_cell b11 y1
    have y2 := keep_cell b11 y2
    clear b10' b11
    go_wp2_with fail
    refine (toLeafS_any a n cap ls _ (h.below b11') hs).mono ?_
    rintro e w12 ⟨rfl, o12, b12⟩
    have b12' := b11'.trans (b12.mono b11'.size)
    have bk := bk.trans (b12.mono bk.size)
    have o5 := o5.below b12
    have x0 := keep_cell b12 x0
    have x1 := keep_cell b12 x1
    have x2 := keep_cell b12 x2
    have y0 := keep_cell b12 y0
    have y1 := keep_cell b12 y1
    have y2 := keep_cell b12 y2
    clear b11' b12
    go_wp2_with fail
    refine (II _ _ (o12.at hsa)).mono ?_
    rintro e w13 ⟨a13, m13, c13, r13, p13, q13, rfl, o13, b13⟩
    have b13' := b12'.trans (b13.mono b12'.size)
    have bk := bk.trans (b13.mono bk.size)
    have o5 := o5.below b13
    have x0 := keep_cell b13 x0
    have x1 := keep_cell b13 x1
    have x2 := keep_cell b13 x2
    have y0 := keep_cell b13 y0
    have y1 := keep_cell b13 y1
    have y2 := keep_cell b13 y2
    obtain ⟨HM, HP⟩ : m13 = m4 ∧ p13 = p4 := by have e2 := HL2.out; have e4 := o13.len; omega
    subst HM HP
    have l1 := lt_of_cell x0
    have l2 := lt_of_cell y0
    clear b12' b13 o12
    go_wp2_with fail
    refine (eqUndo_same c _ _ a13 a2 r13 r2 m13 c13 c2 p13 q13 q2 rs qs _ (o13.below (Bn _ _)) ((o2.below bk).below (Bn _ _)) hrs hp1).mono ?_
    rintro e w14 ⟨rfl, b14⟩
    have b14 := below_box b14
    have b14' := b13'.trans (b14.mono b13'.size)
    have o5 := o5.below b14
    have y0 := keep_cell b14 y0
    have y1 := keep_cell b14 y1
    have y2 := keep_cell b14 y2
    clear b13' b14
    go_wp2_with fail
    refine (heldUndo_any c _ a4 r4 m13 c4 p13 q4 rs _ o5.own hrs hp1).mono ?_
    rintro e w15 ⟨rfl, b15⟩
    rw [hKK]
    go_wp2
    go_ret
    exact ⟨rfl, b14'.trans (b15.mono b14'.size)⟩
end Go.Proofs.Ytjagobcogkdfhaa
