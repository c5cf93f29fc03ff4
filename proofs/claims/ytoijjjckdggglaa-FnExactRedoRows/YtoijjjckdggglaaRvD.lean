
/- CommittedOf of the program and of the model. -/
import Derived.Test.YtoijjjckdggglaaRvC
namespace Go.Proofs.Ytoijjjckdggglaa
open Go.RowKit

theorem rec_new (w : World) (rk rt ry : Int) (rh : Bool) (ro : Int) (rx : Bool) (rn : Int) :
    (w.alloc (.cells #[.int .i64 rk, .int .i64 rt, .int .i64 ry, .bool rh, .int .i64 ro, .bool rx, .int .i64 rn] 54)).cell? ⟨w.heap.size, 0, none⟩ = some (.int .i64 rk) ∧ (w.alloc (.cells #[.int .i64 rk, .int .i64 rt, .int .i64 ry, .bool rh, .int .i64 ro, .bool rx, .int .i64 rn] 54)).cell? ⟨w.heap.size, 1, none⟩ = some (.int .i64 rt) :=
  ⟨cell_of_row _ _ _ _ _ _ (heap_alloc_new w _), cell_of_row _ _ _ _ _ _ (heap_alloc_new w _)⟩

set_option linter.unusedSimpArgs false in
set_option maxRecDepth 20000 in
set_option maxHeartbeats 2000000 in
theorem specCom_any (a : Option Addr) (n cap : Nat) (rs : List Ch.Rec) (w : World) (h : CellsAt w a (n * 7) (rc7 rs)) (hn : n ≤ 1048576) :
    Calls Try.prog 24 #[.slice a n cap] w fun e w' => ∃ a' m c', e = .returned (.agg #[.int .i64 (Ch.comR rs).1, .slice a' m c']) ∧ m ≤ 1048576 ∧ w'.ownsRow w.heap.size 2 1 (.slice a' m c') m (icells (Ch.comR rs).2) ∧ Below w.heap.size w w' := by
  have IA := fun W hW => specRecs_any a n cap rs W hW hn
  have kA : ∀ o, Below w.heap.size w (w.alloc o) := fun o => (Below.refl _ _).alloc (Nat.le_refl _) o
  obtain ⟨c, HC⟩ : ∃ c, Hid (Ch.recsF rs = c) := ⟨_, rfl⟩
  rw [HC.out] at IA
  by_cases h0 : c = 0
  rotate_left
  · have hc : (c != 0) = true := by simpa using h0
    rw [Ch.comR_bad HC.out hc]
    clear HC h0
    go_enter Try.func24, Try.ntmps24
    go_wp2_with fail
    refine (IA _ (h.below (kA _))).mono ?_
    rintro e w1 ⟨rfl, b1⟩
    have hR := block_belowV b1 (heap_alloc_new w _)
    have b1 := below_box b1
    have lz := (Array.getElem?_eq_some_iff.1 hR).1
    obtain ⟨x0, x1, f0, f1⟩ := row2 hR
    go_wp2
    exact bodyPost_ret (v := .agg #[.int .i64 c, .slice none 0 0]) (by simp [results, Try.results24, go_sem, x0, x1]) rfl ⟨none, 0, 0, rfl, by omega, World.ownsRow_nil _ _ _ _, (b1.setCell (p := ⟨w.heap.size, 0, none⟩) (Nat.le_refl _) _).setCell (p := ⟨w.heap.size, 1, none⟩) (Nat.le_refl _) _⟩
  subst h0
  rw [Ch.comR_ok HC.out]
  clear HC
  go_enter Try.func24, Try.ntmps24
  go_wp2_with fail
  refine (IA _ (h.below (kA _))).mono ?_
  rintro e w1 ⟨rfl, b1⟩
  have hR := block_belowV b1 (heap_alloc_new w _)
  have hR0 := hR
  have b1 := below_box b1
  clear IA
  go_wp2_with fail
  refine (kind_any a n cap 4 rs _ (h.below b1) hn).mono ?_
  rintro e w2 ⟨a2, m2, c2, rfl, hm2, o2, b2⟩
  have hR := block_belowV b2 hR
  have b2' := b1.trans (b2.mono b1.size)
  obtain ⟨x0, x1, f0, f1⟩ := row2 hR
  have L2 := owns_lt o2
  have z1 := b1.size
  have lz := (Array.getElem?_eq_some_iff.1 hR).1
  have lz1 : w.heap.size < w1.heap.size := (Array.getElem?_eq_some_iff.1 hR0).1
  go_wp2
  refine bodyPost_ret (v := .agg #[.int .i64 0, .slice a2 m2 c2]) (by simp [results, Try.results24, go_sem, x0, x1]) rfl ⟨a2, m2, c2, rfl, by omega, ?_, ?_⟩
  · refine owns_base (base := w1.heap.size) (ownsRow_setCell_below (ownsRow_setCell_below o2 ?_ _) ?_ _) (by omega)
    · show w.heap.size < w1.heap.size; omega
    · show w.heap.size < w1.heap.size; omega
  · exact (b2'.setCell (p := ⟨w.heap.size, 0, none⟩) (Nat.le_refl _) _).setCell (p := ⟨w.heap.size, 1, none⟩) (Nat.le_refl _) _

set_option linter.unusedSimpArgs false in
set_option maxRecDepth 20000 in
set_option maxHeartbeats 2000000 in
theorem implCom_any (a : Option Addr) (n cap : Nat) (rs : List Ch.Rec) (w : World) (h : CellsAt w a (n * 7) (rc7 rs)) (hn : n ≤ 1048576) :
    Calls Try.prog 25 #[.slice a n cap] w fun e w' => ∃ a' m c', e = .returned (.agg #[.int .i64 (Ch.comR rs).1, .slice a' m c']) ∧ m ≤ 1048576 ∧ w'.ownsRow w.heap.size 2 1 (.slice a' m c') m (icells (Ch.comR rs).2) ∧ Below w.heap.size w w' := by
  have IA := fun W hW => implRecs_any a n cap rs W hW hn
  have kA : ∀ o, Below w.heap.size w (w.alloc o) := fun o => (Below.refl _ _).alloc (Nat.le_refl _) o
  have HL := h.len7
  obtain ⟨i0, hi0, hz0, hz1, hz2⟩ := info_parts Try.info2
  obtain ⟨c, HC⟩ : ∃ c, Hid (Ch.recsF rs = c) := ⟨_, rfl⟩
  rw [HC.out] at IA
  by_cases h0 : c = 0
  rotate_left
  · have hc : (c != 0) = true := by simpa using h0
    rw [Ch.comR_bad HC.out hc]
    clear HC h0
    go_enter Try.func25, Try.ntmps25
    go_wp2_with fail
    refine (IA _ (h.below (kA _))).mono ?_
    rintro e w1 ⟨rfl, b1⟩
    have hR := block_belowV b1 (heap_alloc_new w _)
    have b1 := below_box b1
    have lz := (Array.getElem?_eq_some_iff.1 hR).1
    obtain ⟨x0, x1, f0, f1⟩ := row2 hR
    go_wp2
    exact bodyPost_ret (v := .agg #[.int .i64 c, .slice none 0 0]) (by simp [results, Try.results25, go_sem, x0, x1]) rfl ⟨none, 0, 0, rfl, by omega, World.ownsRow_nil _ _ _ _, (b1.setCell (p := ⟨w.heap.size, 0, none⟩) (Nat.le_refl _) _).setCell (p := ⟨w.heap.size, 1, none⟩) (Nat.le_refl _) _⟩
  subst h0
  rw [Ch.comR_ok HC.out]
  clear HC
  go_enter Try.func25, Try.ntmps25
  go_wp2_with fail
  refine (IA _ (h.below (kA _))).mono ?_
  rintro e w1 ⟨rfl, b1⟩
  have hR := block_belowV b1 (heap_alloc_new w _)
  have b1 := below_box b1
  have lz := (Array.getElem?_eq_some_iff.1 hR).1
  obtain ⟨x0, x1, f0, f1⟩ := row2 hR
  go_wp2
  go_loopw [15] (fun i wr => ∃ (k m : Nat) (a' : Option Addr) (c' : Nat), k ≤ n ∧ m ≤ k ∧ i = .int .i64 k ∧ wr.heap[w.heap.size]? = some (.cells #[.int .i64 0, .slice none 0 0] 42 (0, 0)) ∧ wr.heap[w1.heap.size]? = some (.cells #[.int .i64 0, .slice a' m c'] 42 (0, 0)) ∧ wr.ownsRow (w1.heap.size + 1) 2 1 (.slice a' m c') m (icells (Ch.kindL (rs.take k) 4)) ∧ w1.heap.size + 1 ≤ wr.heap.size ∧ Below w.heap.size w wr) (fun i _ => n - (intOf i).toNat)
  case atStart => exact ⟨0, 0, none, 0, Nat.zero_le _, Nat.le_refl _, rfl, (heap_old' lz).trans hR, heap_alloc_new w1 _, World.ownsRow_nil _ _ _ _, by simp, b1.alloc b1.size _⟩
  case round =>
    clear hR x0 x1 f0 f1 IA
    obtain ⟨k, m, a', c', hk, hmk, rfl, hR, hX, own, hsz, hB⟩ := hrel
    obtain ⟨x0, x1, f0, f1⟩ := row2 hR
    obtain ⟨y0, y1, g0, g1⟩ := row2 hX
    have lr := (Array.getElem?_eq_some_iff.1 hR).1
    by_cases hlt : k < n
    · have hkl : k < rs.length := by have := HL.out; omega
      have HY := hid (fun h1 h2 => Ch.kindL_yes (kd := 4) hkl h1 h2)
      have HD := hid (fun h2 => Ch.kindL_had (kd := 4) hkl h2)
      have HN := hid (fun h1 => Ch.kindL_no (kd := 4) hkl h1)
      obtain ⟨b, off, rfl, q0, q1, q2, q3, q4, q5, q6⟩ := (h.below hB).rec hlt
      have hbl := lt_of_cell q0
      generalize rs.getD k Ch.Rec.zero = r at *
      obtain ⟨rk, rt, ry, rh, ro, rx, rn⟩ := r
      simp only at q0 q1 q2 q3 q4 q5 q6 HY HN HD
      generalize Ch.kindL (rs.take k) 4 = zs at *
      have hsum : m + 1 ≤ 4194304 := by omega
      have IC := fun W hW => containsV_any a' m c' rt zs W hW (by omega)
      have kW : Below wr.heap.size wr (wr.alloc (.cells #[.int .i64 rk, .int .i64 rt, .int .i64 ry, .bool rh, .int .i64 ro, .bool rx, .int .i64 rn] 54)) := (Below.refl _ _).alloc (Nat.le_refl _) _
      have hR2 := block_belowV kW hR
      have hX2 := block_belowV kW hX
      have own2 := owns_below own kW
      have b2' := hB.trans (kW.mono hB.size)
      have z2 := kW.size
      obtain ⟨s0, s1⟩ := rec_new wr rk rt ry rh ro rx rn
      have t1 := keep_cell kW y1
      have ly := lt_of_cell y0
      by_cases hh : rk = 4
      rotate_left
      · have e1 : (rk == 4) = false := by simpa using hh
        clear IC HY HD
        go_wp2
        go_roundw
        case rel => exact ⟨k + 1, m, a', c', by omega, by omega, by go_num, hR2, hX2, by rw [HN.out e1]; exact own2, by omega, b2'⟩
        case measure => simp [intOf]; omega
      · have e1 : (rk == 4) = true := by simpa using hh
        replace HY := hid (HY.out e1)
        clear HN hh
        cases hc : zs.contains rt
        rotate_left
        · rw [hc] at IC
          replace HD := hid (HD.out hc)
          clear HY hc
          go_wp2_with (go_at_call 47; refine (IC _ (owns_cells own2)).mono ?_; rintro e w2 ⟨rfl, hw2⟩; obtain rfl := hw2.symm)
          go_roundw
          case rel => exact ⟨k + 1, m, a', c', by omega, by omega, by go_num, hR2, hX2, by rw [HD.out]; exact own2, by omega, b2'⟩
          case measure => simp [intOf]; omega
        · rw [hc] at IC
          replace HY := hid (HY.out hc)
          clear HD hc
          have kQ : Below (wr.alloc (.cells #[.int .i64 rk, .int .i64 rt, .int .i64 ry, .bool rh, .int .i64 ro, .bool rx, .int .i64 rn] 54)).heap.size (wr.alloc (.cells #[.int .i64 rk, .int .i64 rt, .int .i64 ry, .bool rh, .int .i64 ro, .bool rx, .int .i64 rn] 54)) ((wr.alloc (.cells #[.int .i64 rk, .int .i64 rt, .int .i64 ry, .bool rh, .int .i64 ro, .bool rx, .int .i64 rn] 54)).alloc (.cells #[.int .i64 rt] 2)) := (Below.refl _ _).alloc (Nat.le_refl _) _
          have own3 := owns_below own2 kQ
          have hX3 := block_belowV kQ hX2
          have hR3 := block_belowV kQ hR2
          have hC3 := new_int (wr.alloc (.cells #[.int .i64 rk, .int .i64 rt, .int .i64 ry, .bool rh, .int .i64 ro, .bool rx, .int .i64 rn] 54)) rt 2
          rw [show (wr.alloc (.cells #[.int .i64 rk, .int .i64 rt, .int .i64 ry, .bool rh, .int .i64 ro, .bool rx, .int .i64 rn] 54)).heap.size = wr.heap.size + 1 by simp] at hC3
          have hb3 : w1.heap.size + 1 ≤ ((wr.alloc (.cells #[.int .i64 rk, .int .i64 rt, .int .i64 ry, .bool rh, .int .i64 ro, .bool rx, .int .i64 rn] 54)).alloc (.cells #[.int .i64 rt] 2)).heap.size := by simp; omega
          have b3 := b2'.trans (kQ.mono b2'.size)
          go_wp2_with (first | (go_at_call 47; refine (IC _ (owns_cells own2)).mono ?_; rintro e w2 ⟨rfl, hw2⟩; obtain rfl := hw2.symm) | (at_builtin; go_must (refine wpList_appX Try.underlying26 Try.underlying26 hi0 hz0 hz1 hz2 rfl (by omega) (by omega) (.tmp 31) (.tmp 34) ?_ ?_ (w1.heap.size + 1) (.slice a' m c') m (icells zs) _ 1 1 (icells [rt]) ?_ ?_ own3 hC3 (icells_one' [rt]) hsum hb3 ?_; exact rfl; exact rfl; exact rfl; exact rfl; intro a5 c5 w5 own5 gr5 at5; have hX5 := block_grownV gr5 hX3 (own_apartV own3 (by omega)); have hR5 := block_grownV gr5 hR3 (own_apartV own3 (by omega)); obtain ⟨v0, v1, e0, e1⟩ := row2 hX5; have lv := lt_of_cell v0; go_frame)))
          go_roundw
          case rel =>
            rw [← icells_append, ← HY.out] at own5
            have b5 := b3.grown gr5 b3.size (fun g hg => by have := (owns_lt own3 g hg).1; omega)
            refine ⟨k + 1, m + 1, a5, c5, by omega, by omega, by go_num, ?_, ?_, ?_, ?_, b5.setCell (p := ⟨w1.heap.size, 1, none⟩) (by show w.heap.size ≤ w1.heap.size; omega) _⟩
            · exact (Below.heap_setCell _ _ _ _ (by show w.heap.size ≠ w1.heap.size; omega)).trans hR5
            · have := Joins.block_setCell (i := 1) hX5 (.slice a5 (m + 1) c5)
              simpa using this
            · exact ownsRow_setCell_below own5 (by show w1.heap.size < w1.heap.size + 1; omega) _
            · have := gr5.size; simp at this ⊢; omega
          case measure => simp [intOf]; omega
    · obtain rfl : k = n := by omega
      have HWF : Hid (rs.take k = rs) := by have := HL.out; show _ = _; rw [this]; exact List.take_length
      rw [HWF.out] at own
      go_wp2
      refine bodyPost_ret (v := .agg #[.int .i64 0, .slice a' m c']) (by simp [results, Try.results25, go_sem, x0, x1]) rfl ⟨a', m, c', rfl, by omega, ?_, ?_⟩
      · refine owns_base (base := w1.heap.size + 1) (ownsRow_setCell_below (ownsRow_setCell_below own ?_ _) ?_ _) (by omega)
        · show w.heap.size < w1.heap.size + 1; omega
        · show w.heap.size < w1.heap.size + 1; omega
      · exact (hB.setCell (p := ⟨w.heap.size, 0, none⟩) (Nat.le_refl _) _).setCell (p := ⟨w.heap.size, 1, none⟩) (Nat.le_refl _) _
end Go.Proofs.Ytoijjjckdggglaa
