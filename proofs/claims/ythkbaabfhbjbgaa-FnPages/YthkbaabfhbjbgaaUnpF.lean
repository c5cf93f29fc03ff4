/- UnpackPage of the model: its rows. -/
import Derived.Test.YthkbaabfhbjbgaaUnpE
namespace Go.Proofs.Ythkbaabfhbjbgaa
open Go.RowKit

theorem step_appR {ops : Array Oper} {o : Oper} {a : Act} {w : World} {K : Act → World → Prop} {Q : Exit → Act → World → Prop} {E : Prop} (s x : Operand)
    (B : Nat) (v : Value) (n : Nat) (rs : List Ch.Row) (r : Ch.Row) (hn : n ≤ 1048576)
    (ho : o.op = .call { callee := .builtin .append, args := #[s, x], argTypes := #[25, 25] }) (hgd : o.guard = none)
    (hs : a.eval s = v) (hx : ∃ h c t, a.eval x = .slice (some ⟨h, 0, none⟩) 1 c ∧ w.heap[h]? = some (.cells #[.int .i64 r.k, .int .i64 r.v, .bool r.g] t (0, 0)))
    (hown : w.ownsRow B 36 3 v n (rcells rs)) (hbase : B ≤ w.heap.size)
    (hK : ∀ g' cp' w', w'.ownsRow B 36 3 (.slice (some ⟨g', 0, none⟩) (n + 1) cp') (n + 1) (rcells (rs ++ [r])) → Below B w w' → K (a.put o.dst (.slice (some ⟨g', 0, none⟩) (n + 1) cp')) w') :
    if Region.wanted o (yielded ops a.tmps) = true then Oper.wp Try.prog o a w K Q else E := by
  obtain ⟨h, c, t, hx, hblk⟩ := hx
  obtain ⟨i0, hi, hz0, hz1, hz2⟩ := info_parts Try.info36
  refine step_append_lies _ hgd s x 25 ho B 36 i0 _ 3 24 Try.underlying25 hi hz0 hz1 hz2 rfl (by omega) v n (rcells rs) hs hown ⟨h, 0, none⟩ 1 c [.int .i64 r.k, .int .i64 r.v, .bool r.g] hx rfl (World.news_of_block hblk) (by simp [Value.oneCell']) (by omega) (by unfold maxLen; omega) (by omega) hbase _ rfl ?_
  intro g' cp' w' hown' hgrow hat hlt
  rw [← rcells_snoc] at hown'
  refine hK g' cp' w' hown' ((Below.refl _ _).grown hgrow hbase (fun k hk => ?_))
  rcases hown.2 with ⟨hv, _⟩ | ⟨g, cap', cur, hv, hb, _⟩
  · subst hv; simp [Value.ownBlock] at hk
  · subst hv; simp [Value.ownBlock] at hk; omega

set_option maxHeartbeats 4000000 in
theorem specUnp_rows (b off q cap : Nat) (zs : List Int) (w : World) (h : CellsAt w (some ⟨b, off, none⟩) (q + 2) (bts zs)) (hb : IsB zs) (hq : q ≤ 2000) (hcap : q + 2 ≤ cap) (he : (((q : Int) + 2) != 3 + 4 * zs.getD 0 0) = false)
    (hs : ((zs.getD q 0 * 256 + zs.getD (q + 1) 0) != Ch.sumB (zs.take q)) = false)
    (m : Nat) (hm : q = 1 + 4 * m) (hm255 : m ≤ 255) (R : Int × List Ch.Row)
    (r1 : Hid (∀ j, j < m → 1 < ((zs.drop 1).take (q - 1)).getD (4 * j + 3) 0 → R = (1, [])))
    (r2 : Hid (Ch.GoodTo ((zs.drop 1).take (q - 1)) m → R = if Ch.pageFault (Ch.rowsIn ((zs.drop 1).take (q - 1)) m) = 0 then (0, Ch.rowsIn ((zs.drop 1).take (q - 1)) m) else (1, []))) :
    Calls Try.prog 13 #[.slice (some ⟨b, off, none⟩) (q + 2) cap] w fun e w' => ∃ a' m' c', e = .returned (.agg #[.int .i64 R.1, .slice a' m' c']) ∧ m' ≤ 255 ∧ w'.ownsRow w.heap.size 36 3 (.slice a' m' c') m' (rcells R.2) ∧ Below w.heap.size w w' := by
  have hA := h.below ((Below.refl w.heap.size w).alloc (Nat.le_refl _) (.cells #[.int .i64 0, .slice none 0 0] 27))
  have hcut : CellsAt (w.alloc (.cells #[.int .i64 0, .slice none 0 0] 27)) (some ⟨b, off, none⟩) q (bts (zs.take q)) := by simpa using cells_cut hA (lo := 0) (m := q) (by omega)
  have hbc : IsB (zs.take q) := by simpa using isB_cut hb 0 q
  obtain ⟨b0, off0, hbo, c0⟩ := h.at (show 0 < q + 2 by omega)
  simp only [Option.some.injEq, Addr.mk.injEq, and_true] at hbo
  obtain ⟨rfl, rfl⟩ := hbo
  obtain ⟨p0, p1⟩ := hb 0
  have hn0 : ¬ ((q : Int) + 2) < 3 := by omega
  have hn1 : (0 : Int) < (q : Int) + 2 := by omega
  rw [Nat.add_zero] at c0
  have hbl := lt_of_cell c0
  have j1 : (0 : Int) ≤ (q : Int) := by omega
  have j2 : (q : Int) ≤ (cap : Int) := by omega
  have HM : Hid (q = 1 + 4 * m) := hm
  have hqm : q ≤ 1 + 4 * m := by omega
  have hmq : 1 + 4 * m ≤ q := by omega
  clear hm
  obtain ⟨ys, HYS⟩ : ∃ ys, Hid ((zs.drop 1).take (q - 1) = ys) := ⟨_, rfl⟩
  rw [HYS.out] at r1 r2
  have HI : ∀ i, i < q - 1 → ys.getD i 0 = zs.getD (1 + i) 0 := by
    intro i hi
    rw [← HYS.out]
    simp [List.getD, hi, Nat.add_comm]
  have HI := hid HI
  generalize zs.getD 0 0 = z0 at *
  obtain ⟨x, HX⟩ : ∃ x, Hid (zs.getD q 0 = x) := ⟨_, rfl⟩
  obtain ⟨y, HY⟩ : ∃ y, Hid (zs.getD (q + 1) 0 = y) := ⟨_, rfl⟩
  rw [HX.out, HY.out] at hs
  obtain ⟨t, HT⟩ : ∃ t, Hid (zs.take q = t) := ⟨_, rfl⟩
  rw [HT.out] at hs hcut hbc
  go_enter Try.func13, Try.ntmps13
  go_wp2
  go_quiet (first | (go_at_call 46; exact Calls.quiet_of (take_at _ x y _ (q + 2) _ q zs _ (by omega) HX HY (by exact hA) hb (by omega) (by omega))) | (go_at_call 20; exact Calls.quiet_of_same (specSum_any _ q _ t _ (by exact hcut) hbc (by omega))))
  go_wp2
  go_loopw [5] (fun i wr => ∃ (p k : Nat) (a' : Option Addr) (c' : Nat), Hid (p = 1 + 4 * k) ∧ Hid (Ch.GoodTo ys k) ∧ k ≤ m ∧ i = .int .i64 (p : Int) ∧ Hid (wr.heap[w.heap.size + 1]? = some (.cells #[.int .i64 0, .slice a' k c'] 27 (0, 0))) ∧ wr.ownsRow (w.heap.size + 2) 36 3 (.slice a' k c') k (rcells (Ch.rowsIn ys k)) ∧ Below (w.heap.size + 1) (w.alloc (.cells #[.int .i64 0, .slice none 0 0] 27)) wr) (fun i _ => q - (intOf i).toNat)
  case atStart =>
    refine ⟨1, 0, none, 0, rfl, fun i hi => absurd hi (by omega), Nat.zero_le _, rfl, ?_, World.ownsRow_nil _ _ _ _, ?_⟩
    · exact heap_new' (by simp)
    · exact (below_drewN (Below.refl _ _) _).alloc (by simp) _
  case round =>
    clear hA hcut hbc c0 he hs p0 p1
    obtain ⟨p, k, a', c', HP, HGT, hk, rfl, HG, own, hB⟩ := hrel
    have zr := hB.size
    simp at zr
    have hlo : w.heap.size + 1 < wr.heap.size := by
      have := HG.out
      by_cases hlt : w.heap.size + 1 < wr.heap.size
      · exact hlt
      · rw [Array.getElem?_eq_none (by omega)] at this; cases this
    have hBw : Below w.heap.size w wr := ((Below.refl _ _).alloc (Nat.le_refl _) _).trans (hB.mono (by simp))
    have hp1 : p ≤ 1 + 4 * k := by have := HP.out; omega
    have hp2 : 1 + 4 * k ≤ p := by have := HP.out; omega
    have o0 : wr.cell? ⟨w.heap.size + 1, 0, none⟩ = some (.int .i64 0) := cell_of_row _ _ _ _ _ _ HG.out
    have o1 : wr.cell? ⟨w.heap.size + 1, 1, none⟩ = some (.slice a' k c') := cell_of_row _ _ _ _ _ _ HG.out
    have of0 : wr.frozen? ⟨w.heap.size + 1, 0, none⟩ = false := frozen_of_row _ _ _ _ _ HG.out
    have of1 : wr.frozen? ⟨w.heap.size + 1, 1, none⟩ = false := frozen_of_row _ _ _ _ _ HG.out
    by_cases hlt : k < m
    · have hwr := h.below hBw
      obtain ⟨b1, off1, hbo, d0⟩ := hwr.at (show p < q + 2 by omega)
      simp only [Option.some.injEq, Addr.mk.injEq, and_true] at hbo
      obtain ⟨rfl, rfl⟩ := hbo
      obtain ⟨b1, off1, hbo, d3⟩ := hwr.at (show p + 3 < q + 2 by omega)
      simp only [Option.some.injEq, Addr.mk.injEq, and_true] at hbo
      obtain ⟨rfl, rfl⟩ := hbo
      have HE3 : Hid (ys.getD (4 * k + 3) 0 = zs.getD (p + 3) 0) := by
        show _ = _
        rw [HI.out (4 * k + 3) (by omega), show 1 + (4 * k + 3) = p + 3 by omega]
      have HR : Hid (Ch.rowsIn ys (k + 1) = Ch.rowsIn ys k ++ [Ch.readRow (zs.getD p 0) (zs.getD (p + 1) 0) (zs.getD (p + 1 + 1) 0) (zs.getD (p + 3) 0)]) := by
        show _ = _
        rw [Ch.rowsIn_snoc, Ch.rowIn, HI.out (4 * k) (by omega), HI.out (4 * k + 1) (by omega), HI.out (4 * k + 2) (by omega), HI.out (4 * k + 3) (by omega), show 1 + 4 * k = p by omega, show 1 + (4 * k + 1) = p + 1 by omega, show 1 + (4 * k + 2) = p + 1 + 1 by omega, show 1 + (4 * k + 3) = p + 3 by omega]
      obtain ⟨u0, u1⟩ := hb p
      obtain ⟨u6, _⟩ := hb (p + 3)
      generalize zs.getD p 0 = x0 at *
      generalize zs.getD (p + 3) 0 = x3 at *
      obtain ⟨x1, HX1⟩ : ∃ x, Hid (zs.getD (p + 1) 0 = x) := ⟨_, rfl⟩
      obtain ⟨x2, HX2⟩ : ∃ x, Hid (zs.getD (p + 1 + 1) 0 = x) := ⟨_, rfl⟩
      by_cases hgood : x3 ≤ 1
      case neg =>
        have HR1 : Hid (R = (1, [])) := r1.out k hlt (by rw [HE3.out]; omega)
        have q0 := hB.cell (p := ⟨w.heap.size, 0, none⟩) (Nat.lt_succ_self _)
        have q1 := hB.cell (p := ⟨w.heap.size, 1, none⟩) (Nat.lt_succ_self _)
        have f0 := hB.frozen (p := ⟨w.heap.size, 0, none⟩) (Nat.lt_succ_self _)
        have f1 := hB.frozen (p := ⟨w.heap.size, 1, none⟩) (Nat.lt_succ_self _)
        simp [go_sem] at q0 q1 f0 f1
        have t1 : (p : Int) + 4 ≤ (q : Int) := by omega
        have t2 : (p : Int) + 3 < (q : Int) + 2 := by omega
        clear HR HE3 own HG
        go_wp2
        refine bodyPost_ret (v := .agg #[.int .i64 1, .slice none 0 0]) (by simp [results, Try.results13, go_sem, q0, q1]) rfl ⟨none, 0, 0, by rw [HR1.out], by omega, by rw [HR1.out]; exact World.ownsRow_nil _ _ _ _, ?_⟩
        exact (hBw.setCell (Nat.le_refl _) _).setCell (Nat.le_refl _) _
      have HGT1 : Hid (Ch.GoodTo ys (k + 1)) := by
        intro i hi
        by_cases hik : i = k
        · subst hik; rw [HE3.out]; exact hgood
        · exact HGT.out i (by omega)
      clear HE3
      have hw0 : IntKind.i64.wrap x0 = x0 := IntWalk.i64_in x0 ⟨by omega, by omega⟩
      have hw1 : IntKind.i64.wrap ((p : Int) + 1) = (p : Int) + 1 := IntWalk.i64_in _ ⟨by omega, by omega⟩
      have hw3 : IntKind.i64.wrap ((p : Int) + 3) = (p : Int) + 3 := IntWalk.i64_in _ ⟨by omega, by omega⟩
      have t0 : (0 : Int) ≤ (p : Int) := by omega
      have t1 : (p : Int) < (q : Int) + 2 := by omega
      have t2 : (p : Int) + 3 < (q : Int) + 2 := by omega
      have t3 : (0 : Int) ≤ (p : Int) + 3 := by omega
      have oA : ∀ j o, ((wr.drewN j).alloc o).cell? ⟨w.heap.size + 1, 1, none⟩ = some (.slice a' k c') := fun j o => (World.cell?_alloc_lt (wr.drewN j) o ⟨w.heap.size + 1, 1, none⟩ hlo).trans o1
      have e3 : ((p : Int) + 3).toNat = p + 3 := by omega
      go_wp2
      go_region_law
        ((first
          | (refine step_appR (.tmp 48) (.tmp 65) (w.heap.size + 2) (.slice a' k c') k (Ch.rowsIn ys k) (Ch.readRow x0 x1 x2 x3) (by omega) ?_ ?_ ?_ ?_ ?_ ?_ ?_; exact rfl; exact rfl; exact rfl; (refine ⟨_, _, 36, rfl, ?_⟩; exact heap_new' (by simp)); (refine owns_below own ?_; repeat (first | exact Below.refl _ _ | refine below_drewN ?_ _ | refine Below.drew ?_ | refine Below.alloc ?_ (by first | omega | (simp; done) | (simp; omega)) _)); (focus (first | omega | (simp; done) | (simp; omega))); intro g3 c3 w3 own3 b3; have b3w : Below (w.heap.size + 2) wr w3 := Below.trans (by repeat (first | exact Below.refl _ _ | refine below_drewN ?_ _ | refine Below.drew ?_ | refine Below.alloc ?_ (by first | omega | (simp; done) | (simp; omega)) _)) b3; have s1 := (b3w.cell (p := ⟨w.heap.size + 1, 1, none⟩) (Nat.lt_succ_self _)).trans o1; have sf1 := (b3w.frozen (p := ⟨w.heap.size + 1, 1, none⟩) (Nat.lt_succ_self _)).trans of1)
          | (go_simp; go_at_call 46; refine (take_at _ x1 x2 _ (q + 2) _ (p + 1) zs _ (by omega) HX1 HX2 (by exact hwr) hb (by omega) (by omega)).mono ?_; rintro e w' ⟨rfl, nq1, rfl⟩)))
      all_goals
        go_wp2
        go_roundw
        case rel =>
          refine ⟨p + 4, k + 1, some ⟨g3, 0, none⟩, c3, ?_, HGT1, by omega, by go_num, ?_, ?_, ?_⟩
          · show _ = _; have := HP.out; omega
          · exact heap_setCell_same w3 _ 1 _ 27 _ ((b3w.block (w.heap.size + 1) (Nat.lt_succ_self _)).trans HG.out)
          · rw [HR.out, HX1.out, HX2.out]
            exact ownsRow_setCell_below own3 (Nat.lt_succ_self _) _
          · exact (hB.trans (b3w.mono (Nat.le_succ _))).setCell (Nat.le_refl _) _
        case measure => simp [intOf]; omega
    · obtain rfl : k = m := by omega
      have t1 : ¬ (p : Int) + 4 ≤ (q : Int) := by omega
      have hkm : k ≤ 2000 := by omega
      go_wp2_with fail
      refine (specPage_any _ k _ (Ch.rowsIn ys k) _ (owns_cells own) (by omega)).mono ?_
      have HR2 := r2.out HGT.out
      generalize hpf : Ch.pageFault (Ch.rowsIn ys k) = pf at *
      rintro e w2 ⟨rfl, b2⟩
      have b2' := hB.trans (b2.mono zr)
      have q0 := b2'.cell (p := ⟨w.heap.size, 0, none⟩) (Nat.lt_succ_self _)
      have q1 := b2'.cell (p := ⟨w.heap.size, 1, none⟩) (Nat.lt_succ_self _)
      have f0 := b2'.frozen (p := ⟨w.heap.size, 0, none⟩) (Nat.lt_succ_self _)
      have f1 := b2'.frozen (p := ⟨w.heap.size, 1, none⟩) (Nat.lt_succ_self _)
      simp [go_sem] at q0 q1 f0 f1
      have o0 := keep_cell b2 o0
      have o1 := keep_cell b2 o1
      have own := owns_below own b2
      have hBw2 : Below w.heap.size w w2 := ((Below.refl _ _).alloc (Nat.le_refl _) _).trans (b2'.mono (Nat.le_succ _))
      cases hz : (pf != 0)
      · have hz0 : pf = 0 := by simpa using hz
        rw [if_pos hz0] at HR2
        have HR2 := hid HR2
        clear hpf hz0
        go_wp2
        refine bodyPost_ret (v := .agg #[.int .i64 0, .slice a' k c']) (by simp [results, Try.results13, go_sem, q0, q1]) rfl ⟨a', k, c', by rw [HR2.out], hm255, ?_, ?_⟩
        · rw [HR2.out]
          exact owns_base (ownsRow_setCell_below (ownsRow_setCell_below own (a := ⟨w.heap.size, 0, none⟩) (show w.heap.size < w.heap.size + 2 by omega) _) (a := ⟨w.heap.size, 1, none⟩) (show w.heap.size < w.heap.size + 2 by omega) _) (by omega)
        · exact (hBw2.setCell (Nat.le_refl _) _).setCell (Nat.le_refl _) _
      · have hz0 : ¬ pf = 0 := by simpa using hz
        rw [if_neg hz0] at HR2
        have HR2 := hid HR2
        clear hpf hz0
        go_wp2
        refine bodyPost_ret (v := .agg #[.int .i64 1, .slice none 0 0]) (by simp [results, Try.results13, go_sem, q0, q1]) rfl ⟨none, 0, 0, by rw [HR2.out], by omega, by rw [HR2.out]; exact World.ownsRow_nil _ _ _ _, ?_⟩
        exact (hBw2.setCell (Nat.le_refl _) _).setCell (Nat.le_refl _) _
end Go.Proofs.Ythkbaabfhbjbgaa
