
/- The law FnExactRecoverRows. -/
import Derived.Test.YtoijjjckdggglaaGreatMz5
import Derived.Test.YtoijjjckdggglaaGreatMrkV
namespace Go.Proofs.YtoijjjckdggglaaGreat
open Go.RowKit

set_option maxHeartbeats 4000000 in
theorem lawRecov_any (a1 : Option Addr) (n1 c1 : Nat) (base : List Ch.Row) (a2 : Option Addr) (n2 c2 : Nat) (zs : List Int) (w : World) (h1 : CellsAt w a1 (n1 * 3) (rcells base)) (h2 : CellsAt w a2 n2 (bts zs)) (hb : IsB zs) (hm1 : n1 ≤ 9223372036854775807) :
    Calls Tryz.prog 3 #[.slice a1 n1 c1, .slice a2 n2 c2] w fun e w' => e = .returned (.bool true) ∧ Below w.heap.size w w' := by
  by_cases hbig : 1048576 < n2
  · have i1 : (1048576 : Int) < (n2 : Int) := by omega
    go_enter Tryz.func3, Tryz.ntmps3
    go_wp2
    go_ret
    exact ⟨rfl, Below.refl _ _⟩
  have hn2 : n2 ≤ 1048576 := by omega
  have i2 : ¬ (1048576 : Int) < (n2 : Int) := by omega
  clear hbig
  have S1 := fun W => sz_from a1 n1 c1 1048576 W (by omega) hm1
  by_cases hbig : 1048576 < n1
  · rw [if_neg (by omega)] at S1
    go_enter Tryz.func3, Tryz.ntmps3
    go_wp2_with fail
    refine (S1 _).mono ?_
    rintro e w1 ⟨rfl, rfl⟩
    go_wp2
    go_ret
    exact ⟨rfl, Below.refl _ _⟩
  have hn1 : n1 ≤ 1048576 := by omega
  rw [if_pos hn1] at S1
  have hl0 : ¬ ((1048576 : Nat) : Int) - (n1 : Int) < 0 := by omega
  generalize ((1048576 : Nat) : Int) - (n1 : Int) = L1 at *
  clear hbig
  have SI := fun (W : World) (A1 A2 : Option Addr) (hW1 : CellsAt W A1 (n1 * 3) (rcells base)) (hW2 : CellsAt W A2 n2 (bts zs)) => specRecov_any A1 n1 n1 base A2 n2 n2 zs W hW1 hW2 hb hn1 hn2 (Nat.le_refl _)
  have II := fun (W : World) (A1 A2 : Option Addr) (hW1 : CellsAt W A1 (n1 * 3) (rcells base)) (hW2 : CellsAt W A2 n2 (bts zs)) => implRecov_any A1 n1 n1 base A2 n2 n2 zs W hW1 hW2 hb hn1 hn2 (Nat.le_refl _)
  generalize Ch.recovR base zs = RR at *
  obtain ⟨c, L, R⟩ := RR
  go_enter Tryz.func3, Tryz.ntmps3
  go_wp2_with fail
  refine (S1 _).mono ?_
  rintro e w1 ⟨rfl, hw1⟩
  obtain rfl := hw1.symm
  clear S1
  go_wp2_with fail
  refine (toRowS_any a1 n1 c1 base _ h1 hn1).mono ?_
  rintro e w1 ⟨rfl, o1, b1⟩
  go_wp2_with fail
  refine (toByteS_any a2 n2 c2 zs _ (h2.below b1) (by omega)).mono ?_
  rintro e w2 ⟨rfl, o1r, b2⟩
  have b2' := b1.trans (b2.mono b1.size)
  have o1 := owns_below o1 b2
  have z1 := b1.size
  have z2 := b2.size
  go_wp2_with fail
  refine (SI _ _ _ (owns_cells o1) (owns_bytes o1r)).mono ?_
  rintro e w3 ⟨sa, sm, sc, ta, tm, tc, rfl, hsm, htm, os, ot, _, b3⟩
  simp only at os ot
  have b3' := b2'.trans (b3.mono b2'.size)
  have z3 := b3.size
  have LS := owns_lt os
  have LT := owns_lt ot
  clear o1 o1r SI b1 b2 b3
  -- the box of the model's answer
  go_wp2_with fail
  refine (toRowS_at (w3.heap.size + 1) a1 n1 c1 base _ (by simp) (h1.below (b3'.alloc b3'.size _)) hn1).mono ?_
  rintro e w4 ⟨rfl, ox, b4⟩
  have x0 := box_cell b4 0
  have x1 := box_cell b4 1
  have x2 := box_cell b4 2
  simp at x0 x1 x2
  have z4 := b4.size
  simp at z4
  have b4 := below_box b4
  have b4' := b3'.trans (b4.mono b3'.size)
  have os := owns_below os b4
  have ot := owns_below ot b4
  have LX := owns_lt ox
  clear b3'
  go_wp2_with fail
  refine (toByteS_any a2 n2 c2 zs _ (h2.below b4') (by omega)).mono ?_
  rintro e w5 ⟨rfl, oy, b5⟩
  have os := owns_below os b5
  have ot := owns_below ot b5
  have ox := owns_below ox b5
  have x0 := keep_cell b5 x0
  have x1 := keep_cell b5 x1
  have x2 := keep_cell b5 x2
  have b5' := b4'.trans (b5.mono b4'.size)
  have z5 := b5.size
  have LY := owns_lt oy
  clear b4' b4 b5
  go_wp2_with fail
  refine (II _ _ _ (owns_cells ox) (owns_bytes oy)).mono ?_
  rintro e w6 ⟨ga, gm, gc, ha, hm, hc, rfl, hgm, hhm, og, oh, apg, b6⟩
  simp only at og oh
  have os := owns_below os b6
  have ot := owns_below ot b6
  have ox := owns_below ox b6
  have oy := owns_below oy b6
  have x0 := keep_cell b6 x0
  have x1 := keep_cell b6 x1
  have x2 := keep_cell b6 x2
  have b6' := b5'.trans (b6.mono b5'.size)
  have z6 := b6.size
  have LG := owns_lt og
  have LH := owns_lt oh
  have E1 : gm = sm := by have e1 := os.1; have e2 := og.1; omega
  have E2 : hm = tm := by have e1 := ot.1; have e2 := oh.1; omega
  subst E1
  subst E2
  have lt6 : w3.heap.size < w6.heap.size := by omega
  clear b5' b6
  go_wp2_with fail
  refine (eqRecover_same _ ga sa gm gc sc L ha ta hm hc tc R _ (owns_cells (og.alloc _)) (owns_cells (os.alloc _)) (owns_cells (oh.alloc _)) (owns_cells (ot.alloc _)) (by omega) (by omega)).mono ?_
  rintro e w7 ⟨rfl, b7⟩
  have y0 := box_cell b7 0
  have y1 := box_cell b7 1
  have y2 := box_cell b7 2
  simp at y0 y1 y2
  have z7 := b7.size
  simp at z7
  have b7 := below_box b7
  have os := owns_below os b7
  have ot := owns_below ot b7
  have ox := owns_below ox b7
  have oy := owns_below oy b7
  have og := owns_below og b7
  have oh := owns_below oh b7
  have x0 := keep_cell b7 x0
  have x1 := keep_cell b7 x1
  have x2 := keep_cell b7 x2
  have b7' := b6'.trans (b7.mono b6'.size)
  clear b6' b7
  go_wp2_with fail
  refine (toRowS_any a1 n1 c1 base _ (h1.below b7') hn1).mono ?_
  rintro e w8 ⟨rfl, ov, b8⟩
  have os := owns_below os b8
  have ot := owns_below ot b8
  have ox := owns_below ox b8
  have oy := owns_below oy b8
  have og := owns_below og b8
  have oh := owns_below oh b8
  have x0 := keep_cell b8 x0
  have x1 := keep_cell b8 x1
  have x2 := keep_cell b8 x2
  have y0 := keep_cell b8 y0
  have y1 := keep_cell b8 y1
  have y2 := keep_cell b8 y2
  have b8' := b7'.trans (b8.mono b7'.size)
  clear b7' b8
  go_wp2_with fail
  refine (eqRowS_same _ _ n1 n1 n1 base _ (owns_cells ox) (owns_cells ov) (by omega)).mono ?_
  rintro e w9 ⟨rfl, b9⟩
  have os := owns_below os b9
  have ot := owns_below ot b9
  have ox := owns_below ox b9
  have oy := owns_below oy b9
  have og := owns_below og b9
  have oh := owns_below oh b9
  have x0 := keep_cell b9 x0
  have x1 := keep_cell b9 x1
  have x2 := keep_cell b9 x2
  have y0 := keep_cell b9 y0
  have y1 := keep_cell b9 y1
  have y2 := keep_cell b9 y2
  have b9' := b8'.trans (b9.mono b8'.size)
  clear b8' b9 ov
  go_wp2_with fail
  refine (toByteS_any a2 n2 c2 zs _ (h2.below b9') (by omega)).mono ?_
  rintro e w10 ⟨rfl, ov, b10⟩
  have os := owns_below os b10
  have ot := owns_below ot b10
  have ox := owns_below ox b10
  have oy := owns_below oy b10
  have og := owns_below og b10
  have oh := owns_below oh b10
  have x0 := keep_cell b10 x0
  have x1 := keep_cell b10 x1
  have x2 := keep_cell b10 x2
  have y0 := keep_cell b10 y0
  have y1 := keep_cell b10 y1
  have y2 := keep_cell b10 y2
  have b10' := b9'.trans (b10.mono b9'.size)
  clear b9' b10
  go_wp2_with fail
  refine (eqByteS_same _ _ n2 n2 n2 zs _ (owns_bytes oy) (owns_bytes ov) (by omega)).mono ?_
  rintro e w11 ⟨rfl, b11⟩
  have os := owns_below os b11
  have ot := owns_below ot b11
  have ox := owns_below ox b11
  have oy := owns_below oy b11
  have og := owns_below og b11
  have oh := owns_below oh b11
  have x0 := keep_cell b11 x0
  have x1 := keep_cell b11 x1
  have x2 := keep_cell b11 x2
  have y0 := keep_cell b11 y0
  have y1 := keep_cell b11 y1
  have y2 := keep_cell b11 y2
  have b11' := b10'.trans (b11.mono b10'.size)
  clear b10' b11 ov
  go_wp2_with fail
  refine (markRowS_own 1 _ n1 _ n1 base _ (by decide) (by decide) ox (by omega)).mono ?_
  rintro e w12 ⟨rfl, _, g12⟩
  have os := owns_grown os g12 (fun g hg hk => by have := LS g hg; have := LX g hk; omega)
  have og := owns_grown og g12 (fun g hg hk => by have := LG g hg; have := LX g hk; omega)
  have ot := owns_grown ot g12 (fun g hg hk => by have := LT g hg; have := LX g hk; omega)
  have oh := owns_grown oh g12 (fun g hg hk => by have := LH g hg; have := LX g hk; omega)
  have oy := owns_grown oy g12 (fun g hg hk => by have := LY g hg; have := LX g hk; omega)
  have x0 := grown_cell g12 x0 (fun hk => by have := LX _ hk; omega)
  have x1 := grown_cell g12 x1 (fun hk => by have := LX _ hk; omega)
  have x2 := grown_cell g12 x2 (fun hk => by have := LX _ hk; omega)
  have y0 := grown_cell g12 y0 (fun hk => by have := LX _ hk; omega)
  have y1 := grown_cell g12 y1 (fun hk => by have := LX _ hk; omega)
  have y2 := grown_cell g12 y2 (fun hk => by have := LX _ hk; omega)
  have b12' := b11'.grown g12 b11'.size (by intro k hk; have := (LX k hk).1; omega)
  clear b11' g12 ox
  have hMR := markV_any (1 + 3 * n1) _ _ n2 n2 zs w12 oy (by omega) (by omega)
  have hk3 : ¬ ((1 + 3 * n1 + n2 : Nat) : Int) < 0 := by omega
  have hkk : (1 + 3 * (n1 : Int)) = ((1 + 3 * n1 : Nat) : Int) := by omega
  rw [← hkk] at hMR
  generalize ((1 + 3 * n1 + n2 : Nat) : Int) = kk2 at *
  clear hkk
  generalize (1 + 3 * (n1 : Int)) = kk1 at *
  go_wp2_with fail
  refine hMR.mono ?_
  rintro e w13 ⟨rfl, _, g13⟩
  clear hMR
  have os := owns_grown os g13 (fun g hg hk => by have := LS g hg; have := LY g hk; omega)
  have og := owns_grown og g13 (fun g hg hk => by have := LG g hg; have := LY g hk; omega)
  have ot := owns_grown ot g13 (fun g hg hk => by have := LT g hg; have := LY g hk; omega)
  have oh := owns_grown oh g13 (fun g hg hk => by have := LH g hg; have := LY g hk; omega)
  have x0 := grown_cell g13 x0 (fun hk => by have := LY _ hk; omega)
  have x1 := grown_cell g13 x1 (fun hk => by have := LY _ hk; omega)
  have x2 := grown_cell g13 x2 (fun hk => by have := LY _ hk; omega)
  have y0 := grown_cell g13 y0 (fun hk => by have := LY _ hk; omega)
  have y1 := grown_cell g13 y1 (fun hk => by have := LY _ hk; omega)
  have y2 := grown_cell g13 y2 (fun hk => by have := LY _ hk; omega)
  have b13' := b12'.grown g13 b12'.size (by intro k hk; have := (LY k hk).1; omega)
  clear b12' g13 oy
  go_wp2_with fail
  refine (eqRecover_same _ ga sa gm gc sc L ha ta hm hc tc R _ (owns_cells og) (owns_cells os) (owns_cells oh) (owns_cells ot) (by omega) (by omega)).mono ?_
  rintro e w14 ⟨rfl, b14⟩
  have os := owns_below os b14
  have ot := owns_below ot b14
  have og := owns_below og b14
  have oh := owns_below oh b14
  have x0 := keep_cell b14 x0
  have x1 := keep_cell b14 x1
  have x2 := keep_cell b14 x2
  have y0 := keep_cell b14 y0
  have y1 := keep_cell b14 y1
  have y2 := keep_cell b14 y2
  have b14' := b13'.trans (b14.mono b13'.size)
  clear b13' b14
  go_wp2_with fail
  refine (markRecover_any _ _ ga gm gc L ha hm hc R _ og oh apg hgm hhm).mono ?_
  rintro e w15 ⟨rfl, og, oh, wm, g15, g16⟩
  have os := owns_grown os g15 (fun g hg hk => by have := LS g hg; have := LG g hk; omega)
  have ot := owns_grown ot g15 (fun g hg hk => by have := LT g hg; have := LG g hk; omega)
  have x0 := grown_cell g15 x0 (fun hk => by have := LG _ hk; omega)
  have x1 := grown_cell g15 x1 (fun hk => by have := LG _ hk; omega)
  have x2 := grown_cell g15 x2 (fun hk => by have := LG _ hk; omega)
  have y0 := grown_cell g15 y0 (fun hk => by have := LG _ hk; omega)
  have y1 := grown_cell g15 y1 (fun hk => by have := LG _ hk; omega)
  have y2 := grown_cell g15 y2 (fun hk => by have := LG _ hk; omega)
  have os := owns_grown os g16 (fun g hg hk => by have := LS g hg; have := LH g hk; omega)
  have ot := owns_grown ot g16 (fun g hg hk => by have := LT g hg; have := LH g hk; omega)
  have x0 := grown_cell g16 x0 (fun hk => by have := LH _ hk; omega)
  have x1 := grown_cell g16 x1 (fun hk => by have := LH _ hk; omega)
  have x2 := grown_cell g16 x2 (fun hk => by have := LH _ hk; omega)
  have y0 := grown_cell g16 y0 (fun hk => by have := LH _ hk; omega)
  have y1 := grown_cell g16 y1 (fun hk => by have := LH _ hk; omega)
  have y2 := grown_cell g16 y2 (fun hk => by have := LH _ hk; omega)
  have b15' := b14'.grown g15 b14'.size (by intro k hk; have := (LG k hk).1; omega)
  have b16' := b15'.grown g16 b15'.size (by intro k hk; have := (LH k hk).1; omega)
  have hq : ((1 + (gm : Int) + 3 * (hm : Int)) != 1 + gm + 3 * hm) = false := by simp
  have hq0 : ¬ (1 + (gm : Int) + 3 * (hm : Int)) < 0 := by omega
  clear b14' b15' g15 g16
  have HE := fun W hW1 hW2 => heldRecover_any c ga gm gc ha hm hc W hW1 hW2 hgm hhm
  generalize (1 + (gm : Int) + 3 * (hm : Int)) = kk3 at *
  go_wp2_with fail
  refine (HE _ (owns_cells og) (owns_cells oh)).mono ?_
  rintro e w17 ⟨rfl, b17⟩
  have os := owns_below os b17
  have ot := owns_below ot b17
  have og := owns_below og b17
  have oh := owns_below oh b17
  have x0 := keep_cell b17 x0
  have x1 := keep_cell b17 x1
  have x2 := keep_cell b17 x2
  have y0 := keep_cell b17 y0
  have y1 := keep_cell b17 y1
  have y2 := keep_cell b17 y2
  have b17' := b16'.trans (b17.mono b16'.size)
  clear b16' b17
  go_wp2_with fail
  refine (toRowS_any a1 n1 c1 base _ (h1.below b17') hn1).mono ?_
  rintro e w18 ⟨rfl, ou, b18⟩
  have os := owns_below os b18
  have ot := owns_below ot b18
  have og := owns_below og b18
  have oh := owns_below oh b18
  have x0 := keep_cell b18 x0
  have x1 := keep_cell b18 x1
  have x2 := keep_cell b18 x2
  have y0 := keep_cell b18 y0
  have y1 := keep_cell b18 y1
  have y2 := keep_cell b18 y2
  have b18' := b17'.trans (b18.mono b17'.size)
  clear b17' b18
  go_wp2_with fail
  refine (toByteS_any a2 n2 c2 zs _ (h2.below b18') (by omega)).mono ?_
  rintro e w19 ⟨rfl, ov, b19⟩
  have os := owns_below os b19
  have ot := owns_below ot b19
  have og := owns_below og b19
  have oh := owns_below oh b19
  have ou := owns_below ou b19
  have x0 := keep_cell b19 x0
  have x1 := keep_cell b19 x1
  have x2 := keep_cell b19 x2
  have y0 := keep_cell b19 y0
  have y1 := keep_cell b19 y1
  have y2 := keep_cell b19 y2
  have b19' := b18'.trans (b19.mono b18'.size)
  clear b18' b19
  go_wp2_with fail
  refine (II _ _ _ (owns_cells ou) (owns_bytes ov)).mono ?_
  rintro e w20 ⟨pa, pm, pc, qa, qm, qc, rfl, hpm, hqm, op, oq, _, b20⟩
  simp only at op oq
  have os := owns_below os b20
  have ot := owns_below ot b20
  have og := owns_below og b20
  have oh := owns_below oh b20
  have x0 := keep_cell b20 x0
  have x1 := keep_cell b20 x1
  have x2 := keep_cell b20 x2
  have y0 := keep_cell b20 y0
  have y1 := keep_cell b20 y1
  have y2 := keep_cell b20 y2
  have b20' := b19'.trans (b20.mono b19'.size)
  have E1 : pm = gm := by have e1 := os.1; have e2 := op.1; omega
  have E2 : qm = hm := by have e1 := ot.1; have e2 := oq.1; omega
  subst E1
  subst E2
  have l1 := lt_of_cell x0
  have l2 := lt_of_cell y0
  clear b19' b20 ou ov II
  go_wp2_with fail
  refine (eqRecover_same _ pa sa pm pc sc L qa ta qm qc tc R _ (owns_cells (op.alloc _)) (owns_cells (os.alloc _)) (owns_cells (oq.alloc _)) (owns_cells (ot.alloc _)) (by omega) (by omega)).mono ?_
  rintro e w21 ⟨rfl, b21⟩
  have b21 := below_box b21
  have og := owns_below og b21
  have oh := owns_below oh b21
  have y0 := keep_cell b21 y0
  have y1 := keep_cell b21 y1
  have y2 := keep_cell b21 y2
  have b21' := b20'.trans (b21.mono b20'.size)
  clear b20' b21
  go_wp2_with fail
  refine (HE _ (owns_cells og) (owns_cells oh)).mono ?_
  rintro e w22 ⟨rfl, b22⟩
  go_wp2
  go_ret
  exact ⟨rfl, b21'.trans (b22.mono b21'.size)⟩
end Go.Proofs.YtoijjjckdggglaaGreat
