
/- IndexOf of the program. -/
import Derived.Test.YthfanfnbjldddaaGreatMz8
import Derived.Test.YthfanfnbjldddaaGreatMz5
import Derived.Test.YthfanfnbjldddaaGreatScanI
namespace Go.Proofs.YthfanfnbjldddaaGreat
open Go.RowKit

theorem Ch.scan_all {ls : List (List Ch.Row)} (hg : Ch.leavesFault ls = 0) : Ch.scan 0 99 ls.flatten = Ch.noGhost ls.flatten := by
  obtain ⟨_, _, hr, _⟩ := (Ch.good_iff ls).1 hg
  unfold Ch.scan Ch.noGhost
  refine List.filter_congr fun r hm => ?_
  have h1 := hr r hm
  obtain ⟨rk, rv, rg⟩ := r
  have h2 := Ch.rowFault_key (k := rk) (v := rv) (g := rg) h1
  simp [Ch.inScan, Ch.inB, h2.1, h2.2]
theorem Ch.ixOf_code {ls : List (List Ch.Row)} : (Ch.scanR ls 0 99).1 = Ch.leavesFault ls := by
  cases h1 : (Ch.leavesFault ls != 0)
  · have h0 : Ch.leavesFault ls = 0 := by simpa using h1
    rw [Ch.scanR_ok h1 (by decide), h0]
  · rw [Ch.scanR_code h1]
theorem Ch.ixOf_rows {ls : List (List Ch.Row)} (hg : Ch.leavesFault ls = 0) : (Ch.scanR ls 0 99).2 = Ch.noGhost ls.flatten := by
  rw [Ch.scanR_ok (by rw [hg]; rfl) (by decide)]
  exact Ch.scan_all hg
theorem Ch.pairs_next {rs : List Ch.Row} {k : Nat} (h : k < rs.length) : (rs.take (k + 1)).map Ch.pairR = (rs.take k).map Ch.pairR ++ [⟨(rs.getD k Ch.Row.zero).v, (rs.getD k Ch.Row.zero).k⟩] := by
  rw [Ch.take_snoc rs Ch.Row.zero k h, List.map_append]; rfl

set_option linter.unusedSimpArgs false in
set_option maxRecDepth 20000 in
set_option maxHeartbeats 4000000 in
theorem implIxOf_any (a : Option Addr) (n cap : Nat) (ls : List (List Ch.Row)) (w : World) (h : LvAt w a n ls) (hs : Ch.lvSize ls ≤ 1048576) :
    Calls Tryz.prog 6 #[.slice a n cap] w fun e w' => ∃ a' m c', e = .returned (.agg #[.int .i64 (Ch.ixOfR ls).1, .slice a' m c']) ∧ m ≤ 1048576 ∧ w'.ownsRow w.heap.size 55 2 (.slice a' m c') m (hcells (Ch.ixOfR ls).2) ∧ Below w.heap.size w w' := by
  have IA := fun W hW => implScanRows_any a n cap 0 99 ls W hW hs
  have kA : ∀ o, Below w.heap.size w (w.alloc o) := fun o => (Below.refl _ _).alloc (Nat.le_refl _) o
  obtain ⟨i0, hi0, hz0, hz1, hz2⟩ := info_parts Tryz.info55
  obtain ⟨c, HC⟩ : ∃ c, Hid (Ch.leavesFault ls = c) := ⟨_, rfl⟩
  rw [Ch.ixOf_code, HC.out] at IA
  by_cases h0 : c = 0
  rotate_left
  · have hc : (c != 0) = true := by simpa using h0
    rw [Ch.ixOfR_code HC.out hc]
    generalize (Ch.scanR ls 0 99).2 = rs at *
    clear HC h0
    go_enter Tryz.func6, Tryz.ntmps6
    go_wp2_with fail
    refine (IA _ (h.below (kA _))).mono ?_
    rintro e w1 ⟨a1, m1, c1, rfl, hm1, o1, b1⟩
    have hR := block_below b1 (heap_alloc_new w _)
    have b1 := below_box b1
    have kS : Below w1.heap.size w1 (w1.alloc (.cells #[.int .i64 c, .slice a1 m1 c1] 50)) := (Below.refl _ _).alloc (Nat.le_refl _) _
    have hR := block_below kS hR
    have lz := (Array.getElem?_eq_some_iff.1 hR).1
    obtain ⟨x0, x1, f0, f1⟩ := row2 hR
    have b2 := b1.trans (kS.mono b1.size)
    go_wp2
    exact bodyPost_ret (v := .agg #[.int .i64 c, .slice none 0 0]) (by simp [results, Tryz.results6, go_sem, x0, x1]) rfl ⟨none, 0, 0, rfl, by omega, World.ownsRow_nil _ _ _ _, (b2.setCell (p := ⟨w.heap.size, 0, none⟩) (Nat.le_refl _) _).setCell (p := ⟨w.heap.size, 1, none⟩) (Nat.le_refl _) _⟩
  subst h0
  rw [Ch.ixOfR_ok HC.out]
  rw [Ch.ixOf_rows HC.out] at IA
  have HND := hid (Ch.pairs_nodup HC.out)
  have HIX : Hid (Ch.ixOfL ls = Ch.sortE ((Ch.noGhost ls.flatten).map Ch.pairR)) := rfl
  generalize Ch.ixOfL ls = ix at *
  generalize Ch.noGhost ls.flatten = rs at *
  clear HC
  go_enter Tryz.func6, Tryz.ntmps6
  go_wp2_with fail
  refine (IA _ (h.below (kA _))).mono ?_
  rintro e w1 ⟨a1, m1, c1, rfl, hm1, o1, b1⟩
  have hR := block_below b1 (heap_alloc_new w _)
  have lz1 := (Array.getElem?_eq_some_iff.1 hR).1
  have b1 := below_box b1
  have kS : Below w1.heap.size w1 ((w1.alloc (.cells #[.int .i64 0, .slice a1 m1 c1] 50)).alloc (.cells #[.int .i64 0, .slice none 0 0] 29)) := ((Below.refl _ _).alloc (Nat.le_refl _) _).alloc (by simp) _
  have hR := block_below kS hR
  have hX0 := heap_alloc_new (w1.alloc (.cells #[.int .i64 0, .slice a1 m1 c1] 50)) (.cells #[.int .i64 0, .slice none 0 0] 29)
  rw [show (w1.alloc (.cells #[.int .i64 0, .slice a1 m1 c1] 50)).heap.size = w1.heap.size + 1 by simp] at hX0
  have o1k := owns_below o1 kS
  have HL := (owns_cells o1).rlen
  have bS := b1.trans (kS.mono b1.size)
  have hz : w.heap.size < w1.heap.size := lz1
  clear IA
  go_wp2
  go_loopw [18] (fun i wr => ∃ (k : Nat) (a' : Option Addr) (c' : Nat), k ≤ m1 ∧ i = .int .i64 k ∧ wr.heap[w.heap.size]? = some (.cells #[.int .i64 0, .slice none 0 0] 29 (0, 0)) ∧ wr.heap[w1.heap.size + 1]? = some (.cells #[.int .i64 0, .slice a' k c'] 29 (0, 0)) ∧ wr.ownsRow (w1.heap.size + 2) 55 2 (.slice a' k c') k (hcells ((rs.take k).map Ch.pairR)) ∧ w1.heap.size + 2 ≤ wr.heap.size ∧ Below w1.heap.size w1 wr ∧ Below w.heap.size w wr) (fun i _ => m1 - (intOf i).toNat)
  case atStart => exact ⟨0, none, 0, Nat.zero_le _, rfl, hR, hX0, World.ownsRow_nil _ _ _ _, by simp, kS, bS⟩
  case round =>
    clear hR hX0 kS bS o1k
    obtain ⟨k, a', c', hk, rfl, hR, hX, own, hsz, hB1, hB⟩ := hrel
    obtain ⟨x0, x1, f0, f1⟩ := row2 hR
    obtain ⟨y0, y1, g0, g1⟩ := row2 hX
    have lr := (Array.getElem?_eq_some_iff.1 hR).1
    by_cases hlt : k < m1
    · have hkl : k < rs.length := by have := HL.out; omega
      have HY := hid (Ch.pairs_next hkl)
      obtain ⟨b, off, rfl, q0, q1, q2⟩ := (owns_cells (owns_below o1 hB1)).row hlt
      have hbl := lt_of_cell q0
      generalize rs.getD k Ch.Row.zero = r at *
      obtain ⟨rk, rv, rg⟩ := r
      simp only at q0 q1 q2 HY
      generalize (rs.take k).map Ch.pairR = zs at *
      have hsum : k + 1 ≤ 4194304 := by omega
      have kW : Below wr.heap.size wr (wr.alloc (.cells #[.int .i64 rk, .int .i64 rv, .bool rg] 53)) := (Below.refl _ _).alloc (Nat.le_refl _) _
      have ly := lt_of_cell y0
      have t1 := keep_cell kW y1
      have kQ := kW.alloc kW.size (.cells #[.int .i64 rv, .int .i64 rk] 55)
      have own3 := owns_below own kQ
      have hX3 := block_below kQ hX
      have hR3 := block_below kQ hR
      have hC3 := new_hold (wr.alloc (.cells #[.int .i64 rk, .int .i64 rv, .bool rg] 53)) rv rk 55
      rw [show (wr.alloc (.cells #[.int .i64 rk, .int .i64 rv, .bool rg] 53)).heap.size = wr.heap.size + 1 by simp] at hC3
      have hb3 : w1.heap.size + 2 ≤ ((wr.alloc (.cells #[.int .i64 rk, .int .i64 rv, .bool rg] 53)).alloc (.cells #[.int .i64 rv, .int .i64 rk] 55)).heap.size := by simp; omega
      have b31 := hB1.trans (kQ.mono hB1.size)
      have b3 := hB.trans (kQ.mono hB.size)
      go_wp2_with (at_builtin; go_must (refine wpList_appX Tryz.underlying27 Tryz.underlying27 hi0 hz0 hz1 hz2 rfl (by omega) (by omega) (.tmp 23) (.tmp 29) ?_ ?_ (w1.heap.size + 2) (.slice a' k c') k (hcells zs) _ 1 1 (hcells [⟨rv, rk⟩]) ?_ ?_ own3 hC3 (hcells_one' _) hsum hb3 ?_; exact rfl; exact rfl; exact rfl; exact rfl; intro a5 c5 w5 own5 gr5 at5; have hX5 := block_grown gr5 hX3 (own_apart own3 (by omega)); have hR5 := block_grown gr5 hR3 (own_apart own3 (by omega)); obtain ⟨v0, v1, e0, e1⟩ := row2 hX5; have lv := lt_of_cell v0; go_frame))
      go_roundw
      case rel =>
        rw [← hcells_append, ← HY.out] at own5
        have b51 := b31.grown gr5 b31.size (fun g hg => by have := (owns_lt own3 g hg).1; omega)
        have b5 := b3.grown gr5 b3.size (fun g hg => by have := (owns_lt own3 g hg).1; omega)
        refine ⟨k + 1, a5, c5, by omega, by go_num, ?_, ?_, ?_, ?_, b51.setCell (p := ⟨w1.heap.size + 1, 1, none⟩) (by show w1.heap.size ≤ w1.heap.size + 1; omega) _, b5.setCell (p := ⟨w1.heap.size + 1, 1, none⟩) (by show w.heap.size ≤ w1.heap.size + 1; omega) _⟩
        · exact (Below.heap_setCell _ _ _ _ (by show w.heap.size ≠ w1.heap.size + 1; omega)).trans hR5
        · have := Joins.block_setCell (i := 1) hX5 (.slice a5 (k + 1) c5)
          simpa using this
        · exact ownsRow_setCell_below own5 (by show w1.heap.size + 1 < w1.heap.size + 2; omega) _
        · have := gr5.size; simp at this ⊢; omega
      case measure => simp [intOf]; omega
    · obtain rfl : k = m1 := by omega
      have HWF : Hid (rs.take k = rs) := by have := HL.out; show _ = _; rw [this]; exact List.take_length
      rw [HWF.out] at own
      have ly := lt_of_cell y0
      rcases own.2 with ⟨hnil, hk0⟩ | ⟨g, cap', cur, hv, _⟩
      · cases hnil
        obtain HE : Hid (ix = []) := by
          have hl := own.1
          rw [hcells_len] at hl
          have : rs.map Ch.pairR = [] := List.eq_nil_of_length_eq_zero (by omega)
          show _ = _
          rw [HIX.out, this]; rfl
        go_wp2_with (go_at_call 20; refine (sortPN_any _ _ _ _).mono ?_; rintro e w' ⟨rfl, rfl⟩)
        refine bodyPost_ret (v := .agg #[.int .i64 0, .slice none 0 0]) (by simp [results, Tryz.results6, go_sem, x0, x1]) rfl ⟨none, 0, 0, rfl, by omega, by rw [HE.out]; exact World.ownsRow_nil _ _ _ _, ?_⟩
        exact (hB.setCell (p := ⟨w.heap.size, 0, none⟩) (Nat.le_refl _) _).setCell (p := ⟨w.heap.size, 1, none⟩) (Nat.le_refl _) _
      · cases hv
        have hcon := sortP_any (w1.heap.size + 2) g k c' (rs.map Ch.pairR) wr own (by omega)
        have hgb := (owns_bounds own).1
        go_wp2_with (go_at_call 20; refine hcon.mono ?_; rintro e w' ⟨rfl, ⟨ys, hp, hsd, own'⟩, gr'⟩; have hX' := block_grown gr' hX (fun e => by cases e; omega); have hR' := block_grown gr' hR (fun e => by cases e; omega); obtain ⟨v0, v1, e0, e1⟩ := row2 hX'; obtain ⟨u0, u1, d0, d1⟩ := row2 hR'; have lv := lt_of_cell v0; have lu := lt_of_cell u0; have b5 := hB.grown gr' hB.size (fun g hg => by cases hg; omega))
        have HE := hid (Ch.perm_sort HND.out hp hsd)
        refine bodyPost_ret (v := .agg #[.int .i64 0, .slice (some ⟨g, 0, none⟩) k c']) (by simp [results, Tryz.results6, go_sem, u0, u1]) rfl ⟨_, k, c', rfl, by omega, ?_, ?_⟩
        · rw [HIX.out, ← HE.out]
          refine owns_base (base := w1.heap.size + 2) (ownsRow_setCell_below (ownsRow_setCell_below own' ?_ _) ?_ _) (by omega)
          · show w.heap.size < w1.heap.size + 2; omega
          · show w.heap.size < w1.heap.size + 2; omega
        · exact (b5.setCell (p := ⟨w.heap.size, 0, none⟩) (Nat.le_refl _) _).setCell (p := ⟨w.heap.size, 1, none⟩) (Nat.le_refl _) _
end Go.Proofs.YthfanfnbjldddaaGreat
