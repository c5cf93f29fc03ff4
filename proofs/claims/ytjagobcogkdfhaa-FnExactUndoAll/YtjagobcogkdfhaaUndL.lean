
/- The law FnExactUndoAll. -/
import Derived.Test.YtjagobcogkdfhaaUndS
import Derived.Test.YtjagobcogkdfhaaQZ
namespace Go.Proofs.Ytjagobcogkdfhaa
open Go.RowKit

theorem Ch.undoR_small {ls : List (List Ch.Row)} {tx : Int} {bs : List Ch.Bf} : Ch.lvSize (Ch.undoR ls tx bs).2.1 ≤ 1048576 ∧ (Ch.undoR ls tx bs).2.2.length ≤ 40 := by
  by_cases h : Ch.setF ls tx bs = 0
  · rw [Ch.undoR_ok h]
    have k := Ch.back_keeps (tx := tx) (Ch.setF_leaves h) bs
    have := Ch.setF_few h
    exact ⟨k.1, by omega⟩
  · rw [Ch.undoR_code rfl (by simpa using h)]
    exact ⟨by simp [Ch.lvSize], by simp⟩

set_option maxHeartbeats 4000000 in
theorem lawUndoAll_any (a : Option Addr) (n cap : Nat) (tx : Int) (ab : Option Addr) (nb cb : Nat) (ls : List (List Ch.Row)) (bs : List Ch.Bf) (w : World) (h : LvAt w a n ls) (hm : n ≤ 9223372036854775807) (hb : CellsAt w ab (nb * 3) (bfcells bs)) (hmb : nb ≤ 9223372036854775807) :
    Calls Try.prog 13 #[.slice a n cap, .int .i64 tx, .slice ab nb cb] w fun e w' => e = .returned (.bool true) ∧ Below w.heap.size w w' := by
  by_cases hbig : 1048576 < Ch.lvSize ls
  · go_enter Try.func13, Try.ntmps13
    go_wp2_with fail
    refine (szLeafS_any a n cap ls _ h hm).mono ?_
    rintro e w1 ⟨rfl, b1⟩
    rw [← Ch.lvLeft_big hbig]
    go_wp2
    go_ret
    exact ⟨rfl, b1⟩
  have hs : Ch.lvSize ls ≤ 1048576 := by omega
  have hl : Ch.lvLeft ls = ((1048576 - Ch.lvSize ls : Nat) : Int) := by rw [Ch.lvLeft, if_pos hs]; omega
  have hsa := small_at hs
  clear hbig
  have SZ := fun W => szLeafS_any a n cap ls W
  rw [hl] at SZ
  have LZ : (1048576 - Ch.lvSize ls : Nat) ≤ 1048576 := by omega
  generalize (1048576 - Ch.lvSize ls : Nat) = L at *
  have hL0 : ¬ ((L : Nat) : Int) < 0 := by omega
  have ZB := fun W => szBef_from ab nb cb L W LZ hmb
  by_cases hbb : L < nb
  · rw [if_neg (by omega)] at ZB
    go_enter Try.func13, Try.ntmps13
    go_wp2_with fail
    refine (SZ _ h hm).mono ?_
    rintro e w1 ⟨rfl, b1⟩
    go_wp2_with fail
    refine (ZB _).mono ?_
    rintro e w' ⟨rfl, rfl⟩
    go_wp2
    go_ret
    exact ⟨rfl, b1⟩
  · have hnb : nb ≤ 1048576 := by omega
    rw [if_pos (by omega)] at ZB
    have hM0 : ¬ ((L : Nat) : Int) - (nb : Int) < 0 := by omega
    generalize ((L : Nat) : Int) - (nb : Int) = M at *
    have SI := fun (W : World) (A B : Option Addr) (hW : LvAt W A n ls) (hB : CellsAt W B (nb * 3) (bfcells bs)) => specUndoAll_any A n n tx B nb nb ls bs W hW hs hB hnb
    have II := fun (W : World) (A B : Option Addr) (hW : LvAt W A n ls) (hB : CellsAt W B (nb * 3) (bfcells bs)) => implUndoAll_any A n n tx B nb nb ls bs W hW hs hB hnb
    have hrs := (Ch.undoR_small (ls := ls) (tx := tx) (bs := bs)).1
    have hqs := (Ch.undoR_small (ls := ls) (tx := tx) (bs := bs)).2
    generalize (Ch.undoR ls tx bs).1 = c at SI II
    generalize (Ch.undoR ls tx bs).2.1 = rs at SI II hrs
    generalize (Ch.undoR ls tx bs).2.2 = qs at SI II hqs
    have Bn : ∀ (W : World) o, Below W.heap.size W (W.alloc o) := fun W o => (Below.refl _ _).alloc (Nat.le_refl _) o
    go_enter Try.func13, Try.ntmps13
    go_wp2_with fail
    refine (SZ _ h hm).mono ?_
    rintro e w0 ⟨rfl, b0⟩
    go_wp2_with fail
    refine (ZB _).mono ?_
    rintro e w' ⟨rfl, rfl⟩
    have z0 := b0.size
    go_wp2_with fail
    refine (toLeafS_any a n cap ls _ (h.below b0) hs).mono ?_
    rintro e w1 ⟨rfl, o1, b1⟩
    have b1' := b0.trans (b1.mono b0.size)
    have z1 := b1.size
    go_wp2_with fail
    refine (toBefS_any ab nb cb bs _ (hb.below b1') hnb).mono ?_
    rintro e v1 ⟨rfl, p1, c1⟩
    have c1' := b1'.trans (c1.mono b1'.size)
    have y1z := c1.size
    go_wp2_with fail
    refine (SI _ _ _ ((o1.below c1).at hsa) (owns_cells p1)).mono ?_
    rintro e w2 ⟨a2, m2, c2, r2, p2, q2, rfl, o2, b2⟩
    have HL2 := hid o2.len
    have b2' := c1'.trans (b2.mono c1'.size)
    have z2 := b2.size
    clear b0 b1 b2 o1 p1 c1 b1' c1'
    go_wp2_with fail
    refine (toLeafS_at (w2.heap.size + 1) a n cap ls _ (by simp) (h.below (b2'.alloc b2'.size _)) hs).mono ?_
    rintro e w3 ⟨rfl, o3, b3⟩
    have b3w := below_box b3
    have bk := b3w
    have b3' := b2'.trans (b3w.mono b2'.size)
    have x0 := box_cell b3 0
    have x1 := box_cell b3 1
    have x2 := box_cell b3 2
    simp at x0 x1 x2
    have z3 := b3.size
    simp at z3
    go_wp2_with fail
    refine (toBefS_any ab nb cb bs _ (hb.below b3') hnb).mono ?_
    rintro e v3 ⟨rfl, p3, c3⟩
    have hv3 := (owns_bounds p3).2
    have c3' := b3'.trans (c3.mono b3'.size)
    have bx := c3
    have bk := bk.trans (c3.mono bk.size)
    have x0 := keep_cell c3 x0
    have x1 := keep_cell c3 x1
    have x2 := keep_cell c3 x2
    go_wp2_with fail
    refine (II _ _ _ ((o3.below c3).at hsa) (owns_cells p3)).mono ?_
    rintro e w4 ⟨a4, m4, c4, r4, p4, q4, rfl, o4, b4⟩
    have b4' := c3'.trans (b4.mono c3'.size)
    have o4 := o4.top
    have p3 := owns_below p3 b4
    have bx := bx.trans (b4.mono bx.size)
    have bk := bk.trans (b4.mono bk.size)
    have x0 := keep_cell b4 x0
    have x1 := keep_cell b4 x1
    have x2 := keep_cell b4 x2
    have z4 := b4.size
    have lt4 : w2.heap.size < w4.heap.size := by omega
    obtain ⟨HM, HP⟩ : m4 = m2 ∧ p4 = p2 := by have e2 := HL2.out; have e4 := o4.own.len; omega
    subst HM HP
    have hp1 : p4 ≤ 1048576 := by have := HL2.out; omega
    generalize hKK : (1 + 3 * (Ch.before rs m4 : Int) + 7 * p4) = KK
    have hq : (KK != KK) = false := by simp
    have hK0 : ¬ KK < 0 := by omega
    clear b3 b3w b2' c3 c3' b3'
    go_wp2_with fail
    refine (eqUndo_same c _ _ a4 a2 r4 r2 m4 c4 c2 p4 q4 q2 rs qs _ (o4.below (Bn _ _)).own ((o2.below bk).below (Bn _ _)) hrs hp1).mono ?_
    rintro e w5 ⟨rfl, b5⟩
    have y0 := box_cell b5 0
    have y1 := box_cell b5 1
    have y2 := box_cell b5 2
    simp at y0 y1 y2
    have b5 := below_box b5
    have b5' := b4'.trans (b5.mono b4'.size)
    have bx := bx.trans (b5.mono bx.size)
    have p3 := owns_below p3 b5
    have bk := bk.trans (b5.mono bk.size)
    have o4 := o4.below b5
    have x0 := keep_cell b5 x0
    have x1 := keep_cell b5 x1
    have x2 := keep_cell b5 x2
    go_wp2_with fail
    refine (toLeafS_any a n cap ls _ (h.below b5') hs).mono ?_
    rintro e w6 ⟨rfl, o6, b6⟩
    have b6' := b5'.trans (b6.mono b5'.size)
    have bx := bx.trans (b6.mono bx.size)
    have p3 := owns_below p3 b6
    have bk := bk.trans (b6.mono bk.size)
    have o4 := o4.below b6
    have x0 := keep_cell b6 x0
    have x1 := keep_cell b6 x1
    have x2 := keep_cell b6 x2
    have y0 := keep_cell b6 y0
    have y1 := keep_cell b6 y1
    have y2 := keep_cell b6 y2
    go_wp2_with fail
    refine (eqLeafS_same _ _ n n n ls _ ((o3.below bx).at hsa) (o6.at hsa) hs).mono ?_
    rintro e w7 ⟨rfl, b7⟩
    have b7' := b6'.trans (b7.mono b6'.size)
    have bx := bx.trans (b7.mono bx.size)
    have p3 := owns_below p3 b7
    have bk := bk.trans (b7.mono bk.size)
    have o4 := o4.below b7
    have x0 := keep_cell b7 x0
    have x1 := keep_cell b7 x1
    have x2 := keep_cell b7 x2
    have y0 := keep_cell b7 y0
    have y1 := keep_cell b7 y1
    have y2 := keep_cell b7 y2
    clear o6
    go_wp2_with fail
    refine (toBefS_any ab nb cb bs _ (hb.below b7') hnb).mono ?_
    rintro e v7 ⟨rfl, p7, c7⟩
    have c7' := b7'.trans (c7.mono b7'.size)
    have bx := bx.trans (c7.mono bx.size)
    have p3 := owns_below p3 c7
    have bk := bk.trans (c7.mono bk.size)
    have o4 := o4.below c7
    have x0 := keep_cell c7 x0
    have x1 := keep_cell c7 x1
    have x2 := keep_cell c7 x2
    have y0 := keep_cell c7 y0
    have y1 := keep_cell c7 y1
    have y2 := keep_cell c7 y2
    go_wp2_with fail
    refine (eqBefS_same _ _ nb nb nb bs _ (owns_cells p3) (owns_cells p7) (by omega)).mono ?_
    rintro e u7 ⟨rfl, d7⟩
    have d7' := c7'.trans (d7.mono c7'.size)
    have bx := bx.trans (d7.mono bx.size)
    have p3 := owns_below p3 d7
    have bk := bk.trans (d7.mono bk.size)
    have o4 := o4.below d7
    have x0 := keep_cell d7 x0
    have x1 := keep_cell d7 x1
    have x2 := keep_cell d7 x2
    have y0 := keep_cell d7 y0
    have y1 := keep_cell d7 y1
    have y2 := keep_cell d7 y2
    clear p7 b6' b6 b5 b5' b4 b4' b7 b7' c7 c7' d7
    go_wp2_with fail
    refine (markLeafS_any _ _ n n ls w3 _ o3 bx hs).mono ?_
    rintro e w8 ⟨rfl, _, wi8⟩
    have hbs := Ch.before_small hs n
    generalize Ch.before ls n = kb at *
    have b8' := d7'.trans (wi8.toBelow (B := w.heap.size) (by omega) d7'.size)
    have bk := bk.trans (wi8.toBelow (B := w2.heap.size) (by omega) bk.size)
    have o4 := o4.within wi8 (by omega)
    have p3 := wi8.owns p3 (fun g hg => by simp [Value.ownBlock] at hg; omega)
    have x0 := within_cell wi8 x0 (by omega)
    have x1 := within_cell wi8 x1 (by omega)
    have x2 := within_cell wi8 x2 (by omega)
    have y0 := within_cell wi8 y0 (by omega)
    have y1 := within_cell wi8 y1 (by omega)
    have y2 := within_cell wi8 y2 (by omega)
    clear d7' o3 wi8 bx
    go_wp2_with fail
    refine (markBefS_any (1 + 3 * (kb : Int)) _ nb _ nb bs _ (by omega) (by omega) p3 (by omega)).mono ?_
    rintro e v8 ⟨rfl, _, gr8⟩
    have wj8 := within_grown (lo := w3.heap.size) (hi := v3.heap.size) gr8 (Nat.le_refl _) hv3
    have hk0 : ¬ (1 + 3 * (kb : Int) + 3 * (nb : Int)) < 0 := by omega
    generalize (1 + 3 * (kb : Int) + 3 * (nb : Int)) = kk at *
    have c8' := b8'.trans (wj8.toBelow (B := w.heap.size) (by omega) b8'.size)
    have bk := bk.trans (wj8.toBelow (B := w2.heap.size) (by omega) bk.size)
    have o4 := o4.within wj8 (Nat.le_refl _)
    have x0 := within_cell wj8 x0 (by omega)
    have x1 := within_cell wj8 x1 (by omega)
    have x2 := within_cell wj8 x2 (by omega)
    have y0 := within_cell wj8 y0 (by omega)
    have y1 := within_cell wj8 y1 (by omega)
    have y2 := within_cell wj8 y2 (by omega)
    clear b8' p3 gr8 wj8
    go_wp2_with fail
    refine (eqUndo_same c _ _ a4 a2 r4 r2 m4 c4 c2 p4 q4 q2 rs qs _ o4.own (o2.below bk) hrs hp1).mono ?_
    rintro e w9 ⟨rfl, b9⟩
    have b9' := c8'.trans (b9.mono c8'.size)
    have bk := bk.trans (b9.mono bk.size)
    have o4 := o4.below b9
    have x0 := keep_cell b9 x0
    have x1 := keep_cell b9 x1
    have x2 := keep_cell b9 x2
    have y0 := keep_cell b9 y0
    have y1 := keep_cell b9 y1
    have y2 := keep_cell b9 y2
    clear c8' b9
    go_wp2_with fail
    refine (markUndo_any c _ _ a4 r4 m4 c4 p4 q4 rs qs _ o4 hrs hp1).mono ?_
    rintro e w10 ⟨rfl, o5, wi10⟩
    rw [hKK]
    have b10' := b9'.trans (wi10.toBelow (B := w.heap.size) (by omega) b9'.size)
    have bk := bk.trans (wi10.toBelow (B := w2.heap.size) (by omega) bk.size)
    have x0 := within_cell wi10 x0 (by omega)
    have x1 := within_cell wi10 x1 (by omega)
    have x2 := within_cell wi10 x2 (by omega)
    have y0 := within_cell wi10 y0 (by omega)
    have y1 := within_cell wi10 y1 (by omega)
    have y2 := within_cell wi10 y2 (by omega)
    clear b9' wi10 o4
    go_wp2_with fail
    refine (heldUndo_any c _ a4 r4 m4 c4 p4 q4 rs _ o5.own hrs hp1).mono ?_
    rintro e w11 ⟨rfl, b11⟩
    rw [hKK]
    have b11' := b10'.trans (b11.mono b10'.size)
    have bk := bk.trans (b11.mono bk.size)
    have o5 := o5.below b11
    have x0 := keep_cell b11 x0
    have x1 := keep_cell b11 x1
    have x2 := keep_cell b11 x2
    have y0 := keep_cell b11 y0
    have y1 := keep_cell b11 y1
    have y2 := keep_cell b11 y2
    clear b10' b11
    go_wp2_with fail
    refine (toLeafS_any a n cap ls _ (h.below b11') hs).mono ?_
    rintro e w12 ⟨rfl, o12, b12⟩
    have b12' := b11'.trans (b12.mono b11'.size)
    have bk := bk.trans (b12.mono bk.size)
    have o5 := o5.below b12
    have x0 := keep_cell b12 x0
    have x1 := keep_cell b12 x1
    have x2 := keep_cell b12 x2
    have y0 := keep_cell b12 y0
    have y1 := keep_cell b12 y1
    have y2 := keep_cell b12 y2
    clear b11' b12
    go_wp2_with fail
    refine (toBefS_any ab nb cb bs _ (hb.below b12') hnb).mono ?_
    rintro e v12 ⟨rfl, p12, c12⟩
    have o12 := o12.below c12
    have c12' := b12'.trans (c12.mono b12'.size)
    have bk := bk.trans (c12.mono bk.size)
    have o5 := o5.below c12
    have x0 := keep_cell c12 x0
    have x1 := keep_cell c12 x1
    have x2 := keep_cell c12 x2
    have y0 := keep_cell c12 y0
    have y1 := keep_cell c12 y1
    have y2 := keep_cell c12 y2
    clear b12' c12
    go_wp2_with fail
    refine (II _ _ _ (o12.at hsa) (owns_cells p12)).mono ?_
    rintro e w13 ⟨a13, m13, c13, r13, p13, q13, rfl, o13, b13⟩
    have b13' := c12'.trans (b13.mono c12'.size)
    have bk := bk.trans (b13.mono bk.size)
    have o5 := o5.below b13
    have x0 := keep_cell b13 x0
    have x1 := keep_cell b13 x1
    have x2 := keep_cell b13 x2
    have y0 := keep_cell b13 y0
    have y1 := keep_cell b13 y1
    have y2 := keep_cell b13 y2
    obtain ⟨HM, HP⟩ : m13 = m4 ∧ p13 = p4 := by have e2 := HL2.out; have e4 := o13.len; omega
    subst HM HP
    have l1 := lt_of_cell x0
    have l2 := lt_of_cell y0
    clear c12' b13 o12 p12
    go_wp2_with fail
    refine (eqUndo_same c _ _ a13 a2 r13 r2 m13 c13 c2 p13 q13 q2 rs qs _ (o13.below (Bn _ _)) ((o2.below bk).below (Bn _ _)) hrs hp1).mono ?_
    rintro e w14 ⟨rfl, b14⟩
    have b14 := below_box b14
    have b14' := b13'.trans (b14.mono b13'.size)
    have o5 := o5.below b14
    have y0 := keep_cell b14 y0
    have y1 := keep_cell b14 y1
    have y2 := keep_cell b14 y2
    clear b13' b14
    go_wp2_with fail
    refine (heldUndo_any c _ a4 r4 m13 c4 p13 q4 rs _ o5.own hrs hp1).mono ?_
    rintro e w15 ⟨rfl, b15⟩
    rw [hKK]
    go_wp2
    go_ret
    exact ⟨rfl, b14'.trans (b15.mono b14'.size)⟩
end Go.Proofs.Ytjagobcogkdfhaa
