/- What an operation tells of rows: of the program and of the model. -/
import Derived.Test.YtlpncikiaojmiaaMz3
import Derived.Test.YtlpncikiaojmiaaMz0
import Derived.Test.YtlpncikiaojmiaaIntS
namespace Go.Proofs.Ytlpncikiaojmiaa
open Go.RowKit

theorem new_intsA (w : World) (r s : Int) (t : TypeId) : CellsAt (w.alloc (.cells #[.int .i64 r, .int .i64 s] t)) (some ⟨w.heap.size, 0, none⟩) (2 * 1) (icells [r, s]) := by
  refine ⟨rfl, fun _ => ⟨w.heap.size, 0, rfl, fun i hi => ?_⟩⟩
  match i, hi with
  | 0, _ => simp [icells]
  | 1, _ => simp [icells]

set_option linter.unusedSimpArgs false in
set_option maxHeartbeats 2000000 in
theorem tell1_i (p : Nat) (S : Ch.Sl) (a b v : Int) (w : World) (h : Slt w p S) :
    Calls Try.prog 43 #[.pointer (some ⟨p, 0, none⟩), .agg #[.int .i64 1, .int .i64 a, .int .i64 b, .int .i64 v]] w fun e w' => ∃ a' m c', e = .returned (.slice a' m c') ∧ m ≤ 2097152 ∧ w'.ownsRow w.heap.size 2 1 (.slice a' m c') m (icells (Ch.tell 1 a b v (Ch.rowsS S))) ∧ Below w.heap.size w w' := by
  obtain ⟨i0, hi0, hz0, hz1, hz2⟩ := info_parts Try.info2
  have b0 : Below w.heap.size w (w.alloc (.cells #[.int .i64 1, .int .i64 a, .int .i64 b, .int .i64 v] 49)) := (Below.refl _ _).alloc (Nat.le_refl _) _
  obtain ⟨rs, HRS⟩ : ∃ rs, Hid (Ch.rowsS S = rs) := ⟨_, rfl⟩
  rw [HRS.out]
  go_enter Try.func43, Try.ntmps43
  go_wp2_with fail
  refine (rowsP_any p S _ (h.below b0)).mono ?_
  rintro e w1 ⟨a0, n0, c0, rfl, hn, o1, b1⟩
  rw [HRS.out] at o1
  have hc := owns_cells o1
  have hn : n0 ≤ 1048576 := by omega
  have x0 := box_cell b1 0
  have x1 := box_cell b1 1
  have x2 := box_cell b1 2
  have x3 := box_cell b1 3
  simp at x0 x1 x2 x3
  have hb1 := lt_of_cell x0
  replace b1 := below_box b1
  clear o1
  have HL := hc.rlen
  go_wp2
  go_loopw [5, 11] (fun q i wr => ∃ (j m : Nat) (a' : Option Addr) (c' : Nat), j ≤ n0 ∧ m ≤ 2 * j ∧ i = .int .i64 j ∧ q = .slice a' m c' ∧ wr.ownsRow w1.heap.size 2 1 (.slice a' m c') m (icells (Ch.tell 1 a b v (rs.take j))) ∧ Below w1.heap.size w1 wr) (fun _ i _ => n0 - (intOf i).toNat)
  case atStart => exact ⟨0, 0, none, 0, Nat.zero_le _, by omega, rfl, rfl, World.ownsRow_nil _ _ _ _, Below.refl _ _⟩
  case round =>
    obtain ⟨j, m, a', c', hj, hmj, rfl, rfl, own, hB⟩ := hrel
    by_cases hlt : j < n0
    · have HT := hid (Ch.tell_snoc 1 a b v (rs := rs) (j := j) (by have := HL.out; omega))
      obtain ⟨bb, off, rfl, q0, q1, q2⟩ := (hc.below hB).row hlt
      have hbl := lt_of_cell q0
      generalize rs.getD j Ch.Row.zero = r at *
      obtain ⟨rk, rv, rg⟩ := r
      simp only at q0 q1 q2
      have y0 := keep_cell hB x0
      have y1 := keep_cell hB x1
      have y2 := keep_cell hB x2
      have y3 := keep_cell hB x3
      have hby := lt_of_cell y0
      generalize Ch.tell 1 a b v (rs.take j) = zs at *
      by_cases hc2 : (rk == a) = true
      · have HQ : Hid (Ch.tell 1 a b v (rs.take (j + 1)) = zs ++ [rv]) := HT.out.trans (by rw [Ch.tell1_y hc2])
        clear HT
        have kW : Below wr.heap.size wr (wr.alloc (.cells #[.int .i64 rk, .int .i64 rv, .bool rg] 64)) := (Below.refl _ _).alloc (Nat.le_refl _) _
        have own2 := owns_below own kW
        have bz := hB.size
        have b2 := hB.trans (kW.mono (by have := hB.size; (try simp at this); omega))
        have kQ : Below (wr.alloc (.cells #[.int .i64 rk, .int .i64 rv, .bool rg] 64)).heap.size (wr.alloc (.cells #[.int .i64 rk, .int .i64 rv, .bool rg] 64)) ((wr.alloc (.cells #[.int .i64 rk, .int .i64 rv, .bool rg] 64)).alloc (.cells #[.int .i64 rv] 2)) := (Below.refl _ _).alloc (Nat.le_refl _) _
        have own3 := owns_below own2 kQ
        have hC3 := new_int (wr.alloc (.cells #[.int .i64 rk, .int .i64 rv, .bool rg] 64)) rv 2
        rw [show (wr.alloc (.cells #[.int .i64 rk, .int .i64 rv, .bool rg] 64)).heap.size = wr.heap.size + 1 by simp] at hC3
        have hb3 : w1.heap.size ≤ ((wr.alloc (.cells #[.int .i64 rk, .int .i64 rv, .bool rg] 64)).alloc (.cells #[.int .i64 rv] 2)).heap.size := by simp at bz ⊢; omega
        have b3 := b2.trans (kQ.mono (by have := b2.size; simp at this ⊢; omega))
        have hsum : m + 1 ≤ 4194304 := by omega
        go_wp2_with (first | (at_builtin; go_must (refine wpList_appX Try.underlying24 Try.underlying24 hi0 hz0 hz1 hz2 rfl (by omega) (by omega) (.tmp 26) (.tmp 29) ?_ ?_ w1.heap.size (.slice a' m c') m (icells zs) _ 1 1 (icells [rv]) ?_ ?_ own3 hC3 (icells_one' [rv]) hsum hb3 ?_; exact rfl; exact rfl; exact rfl; exact rfl; intro a5 c5 w5 own5 gr5 at5; go_frame)))
        go_roundw
        case rel =>
          rw [← icells_append, ← HQ.out] at own5
          exact ⟨j + 1, m + 1, a5, c5, by omega, by omega, by go_num, rfl, own5, b3.grown gr5 (by have := b3.size; simp at this ⊢; omega) (fun g hg => (owns_lt own3 g hg).1)⟩
        case measure => simp [intOf]; omega
      · have hc3 : (rk == a) = false := by simpa using hc2
        clear hc2
        have HQ : Hid (Ch.tell 1 a b v (rs.take (j + 1)) = zs) := HT.out.trans (by rw [Ch.tell1_n hc3]; simp)
        clear HT
        have kW : Below wr.heap.size wr (wr.alloc (.cells #[.int .i64 rk, .int .i64 rv, .bool rg] 64)) := (Below.refl _ _).alloc (Nat.le_refl _) _
        have own2 := owns_below own kW
        have b2 := hB.trans (kW.mono (by have := hB.size; (try simp at this); omega))
        go_wp2
        go_roundw
        case rel => exact ⟨j + 1, m, a', c', by omega, by omega, by go_num, rfl, by rw [HQ.out]; exact own2, b2⟩
        case measure => simp [intOf]; omega
    · obtain rfl : j = n0 := by omega
      go_wp2
      go_ret
      exact ⟨a', m, c', rfl, by omega, owns_base (by rw [List.take_of_length_le (by have := HL.out; omega)] at own; exact own) b1.size, b1.trans (hB.mono b1.size)⟩

set_option linter.unusedSimpArgs false in
set_option maxHeartbeats 2000000 in
theorem tell4_i (p : Nat) (S : Ch.Sl) (a b v : Int) (w : World) (h : Slt w p S) :
    Calls Try.prog 43 #[.pointer (some ⟨p, 0, none⟩), .agg #[.int .i64 4, .int .i64 a, .int .i64 b, .int .i64 v]] w fun e w' => ∃ a' m c', e = .returned (.slice a' m c') ∧ m ≤ 2097152 ∧ w'.ownsRow w.heap.size 2 1 (.slice a' m c') m (icells (Ch.tell 4 a b v (Ch.rowsS S))) ∧ Below w.heap.size w w' := by
  obtain ⟨i0, hi0, hz0, hz1, hz2⟩ := info_parts Try.info2
  have b0 : Below w.heap.size w (w.alloc (.cells #[.int .i64 4, .int .i64 a, .int .i64 b, .int .i64 v] 49)) := (Below.refl _ _).alloc (Nat.le_refl _) _
  obtain ⟨rs, HRS⟩ : ∃ rs, Hid (Ch.rowsS S = rs) := ⟨_, rfl⟩
  rw [HRS.out]
  go_enter Try.func43, Try.ntmps43
  go_wp2_with fail
  refine (rowsP_any p S _ (h.below b0)).mono ?_
  rintro e w1 ⟨a0, n0, c0, rfl, hn, o1, b1⟩
  rw [HRS.out] at o1
  have hc := owns_cells o1
  have hn : n0 ≤ 1048576 := by omega
  have x0 := box_cell b1 0
  have x1 := box_cell b1 1
  have x2 := box_cell b1 2
  have x3 := box_cell b1 3
  simp at x0 x1 x2 x3
  have hb1 := lt_of_cell x0
  replace b1 := below_box b1
  clear o1
  have HL := hc.rlen
  go_wp2
  go_loopw [5, 11] (fun q i wr => ∃ (j m : Nat) (a' : Option Addr) (c' : Nat), j ≤ n0 ∧ m ≤ 2 * j ∧ i = .int .i64 j ∧ q = .slice a' m c' ∧ wr.ownsRow w1.heap.size 2 1 (.slice a' m c') m (icells (Ch.tell 4 a b v (rs.take j))) ∧ Below w1.heap.size w1 wr) (fun _ i _ => n0 - (intOf i).toNat)
  case atStart => exact ⟨0, 0, none, 0, Nat.zero_le _, by omega, rfl, rfl, World.ownsRow_nil _ _ _ _, Below.refl _ _⟩
  case round =>
    obtain ⟨j, m, a', c', hj, hmj, rfl, rfl, own, hB⟩ := hrel
    by_cases hlt : j < n0
    · have HT := hid (Ch.tell_snoc 4 a b v (rs := rs) (j := j) (by have := HL.out; omega))
      obtain ⟨bb, off, rfl, q0, q1, q2⟩ := (hc.below hB).row hlt
      have hbl := lt_of_cell q0
      generalize rs.getD j Ch.Row.zero = r at *
      obtain ⟨rk, rv, rg⟩ := r
      simp only at q0 q1 q2
      have y0 := keep_cell hB x0
      have y1 := keep_cell hB x1
      have y2 := keep_cell hB x2
      have y3 := keep_cell hB x3
      have hby := lt_of_cell y0
      generalize Ch.tell 4 a b v (rs.take j) = zs at *
      by_cases hc1 : a ≤ rk
      · by_cases hc2 : rk ≤ b
        · have hin : Ch.inB rk a b = true := by unfold Ch.inB; simp [hc1, hc2]
          have HQ : Hid (Ch.tell 4 a b v (rs.take (j + 1)) = zs ++ [rk, rv]) := HT.out.trans (by rw [Ch.tell4_y hin])
          clear HT
          have kW : Below wr.heap.size wr (wr.alloc (.cells #[.int .i64 rk, .int .i64 rv, .bool rg] 64)) := (Below.refl _ _).alloc (Nat.le_refl _) _
          have own2 := owns_below own kW
          have bz := hB.size
          have b2 := hB.trans (kW.mono (by have := hB.size; (try simp at this); omega))
          have kQ : Below (wr.alloc (.cells #[.int .i64 rk, .int .i64 rv, .bool rg] 64)).heap.size (wr.alloc (.cells #[.int .i64 rk, .int .i64 rv, .bool rg] 64)) ((wr.alloc (.cells #[.int .i64 rk, .int .i64 rv, .bool rg] 64)).alloc (.cells #[.int .i64 rk, .int .i64 rv] 2)) := (Below.refl _ _).alloc (Nat.le_refl _) _
          have own3 := owns_below own2 kQ
          have hC3 := new_intsA (wr.alloc (.cells #[.int .i64 rk, .int .i64 rv, .bool rg] 64)) rk rv 2
          rw [show (wr.alloc (.cells #[.int .i64 rk, .int .i64 rv, .bool rg] 64)).heap.size = wr.heap.size + 1 by simp] at hC3
          have hb3 : w1.heap.size ≤ ((wr.alloc (.cells #[.int .i64 rk, .int .i64 rv, .bool rg] 64)).alloc (.cells #[.int .i64 rk, .int .i64 rv] 2)).heap.size := by simp at bz ⊢; omega
          have b3 := b2.trans (kQ.mono (by have := b2.size; simp at this ⊢; omega))
          have hsum : m + 2 ≤ 4194304 := by omega
          go_wp2_with (first | (at_builtin; go_must (refine wpList_appX Try.underlying24 Try.underlying24 hi0 hz0 hz1 hz2 rfl (by omega) (by omega) (.tmp 49) (.tmp 54) ?_ ?_ w1.heap.size (.slice a' m c') m (icells zs) _ 2 2 (icells [rk, rv]) ?_ ?_ own3 hC3 (icells_one' [rk, rv]) hsum hb3 ?_; exact rfl; exact rfl; exact rfl; exact rfl; intro a5 c5 w5 own5 gr5 at5; go_frame)))
          go_roundw
          case rel =>
            rw [← icells_append, ← HQ.out] at own5
            exact ⟨j + 1, m + 2, a5, c5, by omega, by omega, by go_num, rfl, own5, b3.grown gr5 (by have := b3.size; simp at this ⊢; omega) (fun g hg => (owns_lt own3 g hg).1)⟩
          case measure => simp [intOf]; omega
        · have hin : Ch.inB rk a b = false := by unfold Ch.inB; simp; omega
          have HQ : Hid (Ch.tell 4 a b v (rs.take (j + 1)) = zs) := HT.out.trans (by rw [Ch.tell4_n hin]; simp)
          clear HT
          have kW : Below wr.heap.size wr (wr.alloc (.cells #[.int .i64 rk, .int .i64 rv, .bool rg] 64)) := (Below.refl _ _).alloc (Nat.le_refl _) _
          have own2 := owns_below own kW
          have b2 := hB.trans (kW.mono (by have := hB.size; (try simp at this); omega))
          go_wp2
          go_roundw
          case rel => exact ⟨j + 1, m, a', c', by omega, by omega, by go_num, rfl, by rw [HQ.out]; exact own2, b2⟩
          case measure => simp [intOf]; omega
      · have hin : Ch.inB rk a b = false := by unfold Ch.inB; simp; omega
        have HQ : Hid (Ch.tell 4 a b v (rs.take (j + 1)) = zs) := HT.out.trans (by rw [Ch.tell4_n hin]; simp)
        clear HT
        have kW : Below wr.heap.size wr (wr.alloc (.cells #[.int .i64 rk, .int .i64 rv, .bool rg] 64)) := (Below.refl _ _).alloc (Nat.le_refl _) _
        have own2 := owns_below own kW
        have b2 := hB.trans (kW.mono (by have := hB.size; (try simp at this); omega))
        go_wp2
        go_roundw
        case rel => exact ⟨j + 1, m, a', c', by omega, by omega, by go_num, rfl, by rw [HQ.out]; exact own2, b2⟩
        case measure => simp [intOf]; omega
    · obtain rfl : j = n0 := by omega
      go_wp2
      go_ret
      exact ⟨a', m, c', rfl, by omega, owns_base (by rw [List.take_of_length_le (by have := HL.out; omega)] at own; exact own) b1.size, b1.trans (hB.mono b1.size)⟩

set_option linter.unusedSimpArgs false in
set_option maxHeartbeats 2000000 in
theorem tell5_i (p : Nat) (S : Ch.Sl) (a b v : Int) (w : World) (h : Slt w p S) :
    Calls Try.prog 43 #[.pointer (some ⟨p, 0, none⟩), .agg #[.int .i64 5, .int .i64 a, .int .i64 b, .int .i64 v]] w fun e w' => ∃ a' m c', e = .returned (.slice a' m c') ∧ m ≤ 2097152 ∧ w'.ownsRow w.heap.size 2 1 (.slice a' m c') m (icells (Ch.tell 5 a b v (Ch.rowsS S))) ∧ Below w.heap.size w w' := by
  obtain ⟨i0, hi0, hz0, hz1, hz2⟩ := info_parts Try.info2
  have b0 : Below w.heap.size w (w.alloc (.cells #[.int .i64 5, .int .i64 a, .int .i64 b, .int .i64 v] 49)) := (Below.refl _ _).alloc (Nat.le_refl _) _
  obtain ⟨rs, HRS⟩ : ∃ rs, Hid (Ch.rowsS S = rs) := ⟨_, rfl⟩
  rw [HRS.out]
  go_enter Try.func43, Try.ntmps43
  go_wp2_with fail
  refine (rowsP_any p S _ (h.below b0)).mono ?_
  rintro e w1 ⟨a0, n0, c0, rfl, hn, o1, b1⟩
  rw [HRS.out] at o1
  have hc := owns_cells o1
  have hn : n0 ≤ 1048576 := by omega
  have x0 := box_cell b1 0
  have x1 := box_cell b1 1
  have x2 := box_cell b1 2
  have x3 := box_cell b1 3
  simp at x0 x1 x2 x3
  have hb1 := lt_of_cell x0
  replace b1 := below_box b1
  clear o1
  have HL := hc.rlen
  go_wp2
  go_loopw [5, 11] (fun q i wr => ∃ (j m : Nat) (a' : Option Addr) (c' : Nat), j ≤ n0 ∧ m ≤ 2 * j ∧ i = .int .i64 j ∧ q = .slice a' m c' ∧ wr.ownsRow w1.heap.size 2 1 (.slice a' m c') m (icells (Ch.tell 5 a b v (rs.take j))) ∧ Below w1.heap.size w1 wr) (fun _ i _ => n0 - (intOf i).toNat)
  case atStart => exact ⟨0, 0, none, 0, Nat.zero_le _, by omega, rfl, rfl, World.ownsRow_nil _ _ _ _, Below.refl _ _⟩
  case round =>
    obtain ⟨j, m, a', c', hj, hmj, rfl, rfl, own, hB⟩ := hrel
    by_cases hlt : j < n0
    · have HT := hid (Ch.tell_snoc 5 a b v (rs := rs) (j := j) (by have := HL.out; omega))
      obtain ⟨bb, off, rfl, q0, q1, q2⟩ := (hc.below hB).row hlt
      have hbl := lt_of_cell q0
      generalize rs.getD j Ch.Row.zero = r at *
      obtain ⟨rk, rv, rg⟩ := r
      simp only at q0 q1 q2
      have y0 := keep_cell hB x0
      have y1 := keep_cell hB x1
      have y2 := keep_cell hB x2
      have y3 := keep_cell hB x3
      have hby := lt_of_cell y0
      generalize Ch.tell 5 a b v (rs.take j) = zs at *
      by_cases hc2 : (rv == v) = true
      · have HQ : Hid (Ch.tell 5 a b v (rs.take (j + 1)) = zs ++ [rk]) := HT.out.trans (by rw [Ch.tell5_y hc2])
        clear HT
        have kW : Below wr.heap.size wr (wr.alloc (.cells #[.int .i64 rk, .int .i64 rv, .bool rg] 64)) := (Below.refl _ _).alloc (Nat.le_refl _) _
        have own2 := owns_below own kW
        have bz := hB.size
        have b2 := hB.trans (kW.mono (by have := hB.size; (try simp at this); omega))
        have kQ : Below (wr.alloc (.cells #[.int .i64 rk, .int .i64 rv, .bool rg] 64)).heap.size (wr.alloc (.cells #[.int .i64 rk, .int .i64 rv, .bool rg] 64)) ((wr.alloc (.cells #[.int .i64 rk, .int .i64 rv, .bool rg] 64)).alloc (.cells #[.int .i64 rk] 2)) := (Below.refl _ _).alloc (Nat.le_refl _) _
        have own3 := owns_below own2 kQ
        have hC3 := new_int (wr.alloc (.cells #[.int .i64 rk, .int .i64 rv, .bool rg] 64)) rk 2
        rw [show (wr.alloc (.cells #[.int .i64 rk, .int .i64 rv, .bool rg] 64)).heap.size = wr.heap.size + 1 by simp] at hC3
        have hb3 : w1.heap.size ≤ ((wr.alloc (.cells #[.int .i64 rk, .int .i64 rv, .bool rg] 64)).alloc (.cells #[.int .i64 rk] 2)).heap.size := by simp at bz ⊢; omega
        have b3 := b2.trans (kQ.mono (by have := b2.size; simp at this ⊢; omega))
        have hsum : m + 1 ≤ 4194304 := by omega
        go_wp2_with (first | (at_builtin; go_must (refine wpList_appX Try.underlying24 Try.underlying24 hi0 hz0 hz1 hz2 rfl (by omega) (by omega) (.tmp 67) (.tmp 70) ?_ ?_ w1.heap.size (.slice a' m c') m (icells zs) _ 1 1 (icells [rk]) ?_ ?_ own3 hC3 (icells_one' [rk]) hsum hb3 ?_; exact rfl; exact rfl; exact rfl; exact rfl; intro a5 c5 w5 own5 gr5 at5; go_frame)))
        go_roundw
        case rel =>
          rw [← icells_append, ← HQ.out] at own5
          exact ⟨j + 1, m + 1, a5, c5, by omega, by omega, by go_num, rfl, own5, b3.grown gr5 (by have := b3.size; simp at this ⊢; omega) (fun g hg => (owns_lt own3 g hg).1)⟩
        case measure => simp [intOf]; omega
      · have hc3 : (rv == v) = false := by simpa using hc2
        clear hc2
        have HQ : Hid (Ch.tell 5 a b v (rs.take (j + 1)) = zs) := HT.out.trans (by rw [Ch.tell5_n hc3]; simp)
        clear HT
        have kW : Below wr.heap.size wr (wr.alloc (.cells #[.int .i64 rk, .int .i64 rv, .bool rg] 64)) := (Below.refl _ _).alloc (Nat.le_refl _) _
        have own2 := owns_below own kW
        have b2 := hB.trans (kW.mono (by have := hB.size; (try simp at this); omega))
        go_wp2
        go_roundw
        case rel => exact ⟨j + 1, m, a', c', by omega, by omega, by go_num, rfl, by rw [HQ.out]; exact own2, b2⟩
        case measure => simp [intOf]; omega
    · obtain rfl : j = n0 := by omega
      go_wp2
      go_ret
      exact ⟨a', m, c', rfl, by omega, owns_base (by rw [List.take_of_length_le (by have := HL.out; omega)] at own; exact own) b1.size, b1.trans (hB.mono b1.size)⟩

set_option linter.unusedSimpArgs false in
set_option maxHeartbeats 2000000 in
theorem telln_i (p : Nat) (S : Ch.Sl) (k a b v : Int) (w : World) (h : Slt w p S) (hk : (k == 1) = false ∧ (k == 4) = false ∧ (k == 5) = false) :
    Calls Try.prog 43 #[.pointer (some ⟨p, 0, none⟩), .agg #[.int .i64 k, .int .i64 a, .int .i64 b, .int .i64 v]] w fun e w' => ∃ a' m c', e = .returned (.slice a' m c') ∧ m ≤ 2097152 ∧ w'.ownsRow w.heap.size 2 1 (.slice a' m c') m (icells (Ch.tell k a b v (Ch.rowsS S))) ∧ Below w.heap.size w w' := by
  obtain ⟨i0, hi0, hz0, hz1, hz2⟩ := info_parts Try.info2
  obtain ⟨k1, k4, k5⟩ := hk
  have b0 : Below w.heap.size w (w.alloc (.cells #[.int .i64 k, .int .i64 a, .int .i64 b, .int .i64 v] 49)) := (Below.refl _ _).alloc (Nat.le_refl _) _
  obtain ⟨rs, HRS⟩ : ∃ rs, Hid (Ch.rowsS S = rs) := ⟨_, rfl⟩
  rw [HRS.out]
  go_enter Try.func43, Try.ntmps43
  go_wp2_with fail
  refine (rowsP_any p S _ (h.below b0)).mono ?_
  rintro e w1 ⟨a0, n0, c0, rfl, hn, o1, b1⟩
  rw [HRS.out] at o1
  have hc := owns_cells o1
  have hn : n0 ≤ 1048576 := by omega
  have x0 := box_cell b1 0
  have x1 := box_cell b1 1
  have x2 := box_cell b1 2
  have x3 := box_cell b1 3
  simp at x0 x1 x2 x3
  have hb1 := lt_of_cell x0
  replace b1 := below_box b1
  clear o1
  have HL := hc.rlen
  go_wp2
  go_loopw [5, 11] (fun q i wr => ∃ (j m : Nat) (a' : Option Addr) (c' : Nat), j ≤ n0 ∧ m ≤ 2 * j ∧ i = .int .i64 j ∧ q = .slice a' m c' ∧ wr.ownsRow w1.heap.size 2 1 (.slice a' m c') m (icells (Ch.tell k a b v (rs.take j))) ∧ Below w1.heap.size w1 wr) (fun _ i _ => n0 - (intOf i).toNat)
  case atStart => exact ⟨0, 0, none, 0, Nat.zero_le _, by omega, rfl, rfl, World.ownsRow_nil _ _ _ _, Below.refl _ _⟩
  case round =>
    obtain ⟨j, m, a', c', hj, hmj, rfl, rfl, own, hB⟩ := hrel
    by_cases hlt : j < n0
    · have HT := hid (Ch.tell_snoc k a b v (rs := rs) (j := j) (by have := HL.out; omega))
      obtain ⟨bb, off, rfl, q0, q1, q2⟩ := (hc.below hB).row hlt
      have hbl := lt_of_cell q0
      generalize rs.getD j Ch.Row.zero = r at *
      obtain ⟨rk, rv, rg⟩ := r
      simp only at q0 q1 q2
      have y0 := keep_cell hB x0
      have y1 := keep_cell hB x1
      have y2 := keep_cell hB x2
      have y3 := keep_cell hB x3
      have hby := lt_of_cell y0
      generalize Ch.tell k a b v (rs.take j) = zs at *
      have HQ : Hid (Ch.tell k a b v (rs.take (j + 1)) = zs) := HT.out.trans (by rw [Ch.tellRow_none ⟨k1, k4, k5⟩]; simp)
      clear HT
      have kW : Below wr.heap.size wr (wr.alloc (.cells #[.int .i64 rk, .int .i64 rv, .bool rg] 64)) := (Below.refl _ _).alloc (Nat.le_refl _) _
      have own2 := owns_below own kW
      have b2 := hB.trans (kW.mono (by have := hB.size; (try simp at this); omega))
      go_wp2
      go_roundw
      case rel => exact ⟨j + 1, m, a', c', by omega, by omega, by go_num, rfl, by rw [HQ.out]; exact own2, b2⟩
      case measure => simp [intOf]; omega
    · obtain rfl : j = n0 := by omega
      go_wp2
      go_ret
      exact ⟨a', m, c', rfl, by omega, owns_base (by rw [List.take_of_length_le (by have := HL.out; omega)] at own; exact own) b1.size, b1.trans (hB.mono b1.size)⟩

set_option linter.unusedSimpArgs false in
set_option maxHeartbeats 2000000 in
theorem tell1_s (a0 : Option Addr) (n0 c0 : Nat) (rs : List Ch.Row) (a b v : Int) (w : World) (h : CellsAt w a0 (n0 * 3) (rcells rs)) (hn : n0 ≤ 1048576) :
    Calls Try.prog 68 #[.slice a0 n0 c0, .agg #[.int .i64 1, .int .i64 a, .int .i64 b, .int .i64 v]] w fun e w' => ∃ a' m c', e = .returned (.slice a' m c') ∧ m ≤ 2097152 ∧ w'.ownsRow w.heap.size 2 1 (.slice a' m c') m (icells (Ch.tell 1 a b v rs)) ∧ Below w.heap.size w w' := by
  obtain ⟨i0, hi0, hz0, hz1, hz2⟩ := info_parts Try.info2
  have HL := h.rlen
  have oE := own_empty (w.alloc (.cells #[.int .i64 1, .int .i64 a, .int .i64 b, .int .i64 v] 49)) w.heap.size 2 1 (by simp)
  have b0 : Below w.heap.size w (w.alloc (.cells #[.int .i64 1, .int .i64 a, .int .i64 b, .int .i64 v] 49)) := (Below.refl _ _).alloc (Nat.le_refl _) _
  have kE : Below w.heap.size w ((w.alloc (.cells #[.int .i64 1, .int .i64 a, .int .i64 b, .int .i64 v] 49)).alloc (.cells #[] 2)) := b0.alloc b0.size _
  have hx : ∀ W, Below (w.heap.size + 1) (w.alloc (.cells #[.int .i64 1, .int .i64 a, .int .i64 b, .int .i64 v] 49)) W → W.cell? ⟨w.heap.size, 0, none⟩ = some (.int .i64 1) ∧ W.cell? ⟨w.heap.size, 1, none⟩ = some (.int .i64 a) ∧ W.cell? ⟨w.heap.size, 2, none⟩ = some (.int .i64 b) ∧ W.cell? ⟨w.heap.size, 3, none⟩ = some (.int .i64 v) := by
    intro W hW
    have e : w.heap.size + 1 = (w.alloc (.cells #[.int .i64 1, .int .i64 a, .int .i64 b, .int .i64 v] 49)).heap.size := by simp
    rw [e] at hW
    exact ⟨box_cell hW 0, box_cell hW 1, box_cell hW 2, box_cell hW 3⟩
  have HX := hid hx
  clear hx
  have oE' : ((w.alloc (.cells #[.int .i64 1, .int .i64 a, .int .i64 b, .int .i64 v] 49)).alloc (.cells #[] 2)).ownsRow (w.heap.size + 1) 2 1 (.slice (some ⟨w.heap.size + 1, 0, none⟩) 0 0) 0 [] := by
    have := own_empty (w.alloc (.cells #[.int .i64 1, .int .i64 a, .int .i64 b, .int .i64 v] 49)) (w.heap.size + 1) 2 1 (by simp)
    simpa using this
  have kE' : Below (w.heap.size + 1) (w.alloc (.cells #[.int .i64 1, .int .i64 a, .int .i64 b, .int .i64 v] 49)) ((w.alloc (.cells #[.int .i64 1, .int .i64 a, .int .i64 b, .int .i64 v] 49)).alloc (.cells #[] 2)) := (Below.refl _ _).alloc (by simp) _
  clear oE
  go_enter Try.func68, Try.ntmps68
  go_wp2
  go_loopw [5, 6] (fun q i wr => ∃ (j m : Nat) (a' : Option Addr) (c' : Nat), j ≤ n0 ∧ m ≤ 2 * j ∧ i = .int .i64 j ∧ q = .slice a' m c' ∧ wr.ownsRow (w.heap.size + 1) 2 1 (.slice a' m c') m (icells (Ch.tell 1 a b v (rs.take j))) ∧ Below (w.heap.size + 1) (w.alloc (.cells #[.int .i64 1, .int .i64 a, .int .i64 b, .int .i64 v] 49)) wr) (fun _ i _ => n0 - (intOf i).toNat)
  case atStart => exact ⟨0, 0, _, _, Nat.zero_le _, by omega, rfl, rfl, oE', kE'⟩
  case round =>
    obtain ⟨j, m, a', c', hj, hmj, rfl, rfl, own, hB⟩ := hrel
    by_cases hlt : j < n0
    · have HT := hid (Ch.tell_snoc 1 a b v (rs := rs) (j := j) (by have := HL.out; omega))
      obtain ⟨bb, off, rfl, q0, q1, q2⟩ := (h.below (b0.trans (hB.mono (by simp)))).row hlt
      have hbl := lt_of_cell q0
      generalize rs.getD j Ch.Row.zero = r at *
      obtain ⟨rk, rv, rg⟩ := r
      simp only at q0 q1 q2
      obtain ⟨y0, y1, y2, y3⟩ := HX.out _ hB
      have hby := lt_of_cell y0
      generalize Ch.tell 1 a b v (rs.take j) = zs at *
      by_cases hc2 : (rk == a) = true
      · have HQ : Hid (Ch.tell 1 a b v (rs.take (j + 1)) = zs ++ [rv]) := HT.out.trans (by rw [Ch.tell1_y hc2])
        clear HT
        have kW : Below wr.heap.size wr (wr.alloc (.cells #[.int .i64 rk, .int .i64 rv, .bool rg] 64)) := (Below.refl _ _).alloc (Nat.le_refl _) _
        have own2 := owns_below own kW
        have bz := hB.size
        have b2 := hB.trans (kW.mono (by have := hB.size; (try simp at this); omega))
        have kQ : Below (wr.alloc (.cells #[.int .i64 rk, .int .i64 rv, .bool rg] 64)).heap.size (wr.alloc (.cells #[.int .i64 rk, .int .i64 rv, .bool rg] 64)) ((wr.alloc (.cells #[.int .i64 rk, .int .i64 rv, .bool rg] 64)).alloc (.cells #[.int .i64 rv] 2)) := (Below.refl _ _).alloc (Nat.le_refl _) _
        have own3 := owns_below own2 kQ
        have hC3 := new_int (wr.alloc (.cells #[.int .i64 rk, .int .i64 rv, .bool rg] 64)) rv 2
        rw [show (wr.alloc (.cells #[.int .i64 rk, .int .i64 rv, .bool rg] 64)).heap.size = wr.heap.size + 1 by simp] at hC3
        have hb3 : (w.heap.size + 1) ≤ ((wr.alloc (.cells #[.int .i64 rk, .int .i64 rv, .bool rg] 64)).alloc (.cells #[.int .i64 rv] 2)).heap.size := by simp at bz ⊢; omega
        have b3 := b2.trans (kQ.mono (by have := b2.size; simp at this ⊢; omega))
        have hsum : m + 1 ≤ 4194304 := by omega
        go_wp2_with (first | (at_builtin; go_must (refine wpList_appX Try.underlying24 Try.underlying24 hi0 hz0 hz1 hz2 rfl (by omega) (by omega) (.tmp 28) (.tmp 31) ?_ ?_ (w.heap.size + 1) (.slice a' m c') m (icells zs) _ 1 1 (icells [rv]) ?_ ?_ own3 hC3 (icells_one' [rv]) hsum hb3 ?_; exact rfl; exact rfl; exact rfl; exact rfl; intro a5 c5 w5 own5 gr5 at5; go_frame)))
        go_roundw
        case rel =>
          rw [← icells_append, ← HQ.out] at own5
          exact ⟨j + 1, m + 1, a5, c5, by omega, by omega, by go_num, rfl, own5, b3.grown gr5 (by have := b3.size; simp at this ⊢; omega) (fun g hg => (owns_lt own3 g hg).1)⟩
        case measure => simp [intOf]; omega
      · have hc3 : (rk == a) = false := by simpa using hc2
        clear hc2
        have HQ : Hid (Ch.tell 1 a b v (rs.take (j + 1)) = zs) := HT.out.trans (by rw [Ch.tell1_n hc3]; simp)
        clear HT
        have kW : Below wr.heap.size wr (wr.alloc (.cells #[.int .i64 rk, .int .i64 rv, .bool rg] 64)) := (Below.refl _ _).alloc (Nat.le_refl _) _
        have own2 := owns_below own kW
        have b2 := hB.trans (kW.mono (by have := hB.size; (try simp at this); omega))
        go_wp2
        go_roundw
        case rel => exact ⟨j + 1, m, a', c', by omega, by omega, by go_num, rfl, by rw [HQ.out]; exact own2, b2⟩
        case measure => simp [intOf]; omega
    · obtain rfl : j = n0 := by omega
      go_wp2
      go_ret
      exact ⟨a', m, c', rfl, by omega, owns_base (by rw [List.take_of_length_le (by have := HL.out; omega)] at own; exact own) (by omega), b0.trans (hB.mono (by omega))⟩

set_option linter.unusedSimpArgs false in
set_option maxHeartbeats 2000000 in
theorem tell4_s (a0 : Option Addr) (n0 c0 : Nat) (rs : List Ch.Row) (a b v : Int) (w : World) (h : CellsAt w a0 (n0 * 3) (rcells rs)) (hn : n0 ≤ 1048576) :
    Calls Try.prog 68 #[.slice a0 n0 c0, .agg #[.int .i64 4, .int .i64 a, .int .i64 b, .int .i64 v]] w fun e w' => ∃ a' m c', e = .returned (.slice a' m c') ∧ m ≤ 2097152 ∧ w'.ownsRow w.heap.size 2 1 (.slice a' m c') m (icells (Ch.tell 4 a b v rs)) ∧ Below w.heap.size w w' := by
  obtain ⟨i0, hi0, hz0, hz1, hz2⟩ := info_parts Try.info2
  have HL := h.rlen
  have oE := own_empty (w.alloc (.cells #[.int .i64 4, .int .i64 a, .int .i64 b, .int .i64 v] 49)) w.heap.size 2 1 (by simp)
  have b0 : Below w.heap.size w (w.alloc (.cells #[.int .i64 4, .int .i64 a, .int .i64 b, .int .i64 v] 49)) := (Below.refl _ _).alloc (Nat.le_refl _) _
  have kE : Below w.heap.size w ((w.alloc (.cells #[.int .i64 4, .int .i64 a, .int .i64 b, .int .i64 v] 49)).alloc (.cells #[] 2)) := b0.alloc b0.size _
  have hx : ∀ W, Below (w.heap.size + 1) (w.alloc (.cells #[.int .i64 4, .int .i64 a, .int .i64 b, .int .i64 v] 49)) W → W.cell? ⟨w.heap.size, 0, none⟩ = some (.int .i64 4) ∧ W.cell? ⟨w.heap.size, 1, none⟩ = some (.int .i64 a) ∧ W.cell? ⟨w.heap.size, 2, none⟩ = some (.int .i64 b) ∧ W.cell? ⟨w.heap.size, 3, none⟩ = some (.int .i64 v) := by
    intro W hW
    have e : w.heap.size + 1 = (w.alloc (.cells #[.int .i64 4, .int .i64 a, .int .i64 b, .int .i64 v] 49)).heap.size := by simp
    rw [e] at hW
    exact ⟨box_cell hW 0, box_cell hW 1, box_cell hW 2, box_cell hW 3⟩
  have HX := hid hx
  clear hx
  have oE' : ((w.alloc (.cells #[.int .i64 4, .int .i64 a, .int .i64 b, .int .i64 v] 49)).alloc (.cells #[] 2)).ownsRow (w.heap.size + 1) 2 1 (.slice (some ⟨w.heap.size + 1, 0, none⟩) 0 0) 0 [] := by
    have := own_empty (w.alloc (.cells #[.int .i64 4, .int .i64 a, .int .i64 b, .int .i64 v] 49)) (w.heap.size + 1) 2 1 (by simp)
    simpa using this
  have kE' : Below (w.heap.size + 1) (w.alloc (.cells #[.int .i64 4, .int .i64 a, .int .i64 b, .int .i64 v] 49)) ((w.alloc (.cells #[.int .i64 4, .int .i64 a, .int .i64 b, .int .i64 v] 49)).alloc (.cells #[] 2)) := (Below.refl _ _).alloc (by simp) _
  clear oE
  go_enter Try.func68, Try.ntmps68
  go_wp2
  go_loopw [5, 6] (fun q i wr => ∃ (j m : Nat) (a' : Option Addr) (c' : Nat), j ≤ n0 ∧ m ≤ 2 * j ∧ i = .int .i64 j ∧ q = .slice a' m c' ∧ wr.ownsRow (w.heap.size + 1) 2 1 (.slice a' m c') m (icells (Ch.tell 4 a b v (rs.take j))) ∧ Below (w.heap.size + 1) (w.alloc (.cells #[.int .i64 4, .int .i64 a, .int .i64 b, .int .i64 v] 49)) wr) (fun _ i _ => n0 - (intOf i).toNat)
  case atStart => exact ⟨0, 0, _, _, Nat.zero_le _, by omega, rfl, rfl, oE', kE'⟩
  case round =>
    obtain ⟨j, m, a', c', hj, hmj, rfl, rfl, own, hB⟩ := hrel
    by_cases hlt : j < n0
    · have HT := hid (Ch.tell_snoc 4 a b v (rs := rs) (j := j) (by have := HL.out; omega))
      obtain ⟨bb, off, rfl, q0, q1, q2⟩ := (h.below (b0.trans (hB.mono (by simp)))).row hlt
      have hbl := lt_of_cell q0
      generalize rs.getD j Ch.Row.zero = r at *
      obtain ⟨rk, rv, rg⟩ := r
      simp only at q0 q1 q2
      obtain ⟨y0, y1, y2, y3⟩ := HX.out _ hB
      have hby := lt_of_cell y0
      generalize Ch.tell 4 a b v (rs.take j) = zs at *
      cases hin : Ch.inB rk a b with
      | true =>
        have HQ : Hid (Ch.tell 4 a b v (rs.take (j + 1)) = zs ++ [rk, rv]) := HT.out.trans (by rw [Ch.tell4_y hin])
        clear HT
        have kW : Below wr.heap.size wr (wr.alloc (.cells #[.int .i64 rk, .int .i64 rv, .bool rg] 64)) := (Below.refl _ _).alloc (Nat.le_refl _) _
        have own2 := owns_below own kW
        have bz := hB.size
        have b2 := hB.trans (kW.mono (by have := hB.size; (try simp at this); omega))
        have kQ : Below (wr.alloc (.cells #[.int .i64 rk, .int .i64 rv, .bool rg] 64)).heap.size (wr.alloc (.cells #[.int .i64 rk, .int .i64 rv, .bool rg] 64)) ((wr.alloc (.cells #[.int .i64 rk, .int .i64 rv, .bool rg] 64)).alloc (.cells #[.int .i64 rk, .int .i64 rv] 2)) := (Below.refl _ _).alloc (Nat.le_refl _) _
        have own3 := owns_below own2 kQ
        have hC3 := new_intsA (wr.alloc (.cells #[.int .i64 rk, .int .i64 rv, .bool rg] 64)) rk rv 2
        rw [show (wr.alloc (.cells #[.int .i64 rk, .int .i64 rv, .bool rg] 64)).heap.size = wr.heap.size + 1 by simp] at hC3
        have hb3 : (w.heap.size + 1) ≤ ((wr.alloc (.cells #[.int .i64 rk, .int .i64 rv, .bool rg] 64)).alloc (.cells #[.int .i64 rk, .int .i64 rv] 2)).heap.size := by simp at bz ⊢; omega
        have b3 := b2.trans (kQ.mono (by have := b2.size; simp at this ⊢; omega))
        have hsum : m + 2 ≤ 4194304 := by omega
        go_wp2_with (first | (go_at_call 78; refine (in_any _ _ _ _).mono ?_; rintro e w' ⟨rfl, hww⟩; rw [hin, hww]; clear hww w') | (at_builtin; go_must (refine wpList_appX Try.underlying24 Try.underlying24 hi0 hz0 hz1 hz2 rfl (by omega) (by omega) (.tmp 42) (.tmp 47) ?_ ?_ (w.heap.size + 1) (.slice a' m c') m (icells zs) _ 2 2 (icells [rk, rv]) ?_ ?_ own3 hC3 (icells_one' [rk, rv]) hsum hb3 ?_; exact rfl; exact rfl; exact rfl; exact rfl; intro a5 c5 w5 own5 gr5 at5; go_frame)))
        go_roundw
        case rel =>
          rw [← icells_append, ← HQ.out] at own5
          exact ⟨j + 1, m + 2, a5, c5, by omega, by omega, by go_num, rfl, own5, b3.grown gr5 (by have := b3.size; simp at this ⊢; omega) (fun g hg => (owns_lt own3 g hg).1)⟩
        case measure => simp [intOf]; omega
      | false =>
        have HQ : Hid (Ch.tell 4 a b v (rs.take (j + 1)) = zs) := HT.out.trans (by rw [Ch.tell4_n hin]; simp)
        clear HT
        have kW : Below wr.heap.size wr (wr.alloc (.cells #[.int .i64 rk, .int .i64 rv, .bool rg] 64)) := (Below.refl _ _).alloc (Nat.le_refl _) _
        have own2 := owns_below own kW
        have b2 := hB.trans (kW.mono (by have := hB.size; (try simp at this); omega))
        go_wp2_with (go_at_call 78; refine (in_any _ _ _ _).mono ?_; rintro e w' ⟨rfl, hww⟩; rw [hin, hww]; clear hww w')
        go_roundw
        case rel => exact ⟨j + 1, m, a', c', by omega, by omega, by go_num, rfl, by rw [HQ.out]; exact own2, b2⟩
        case measure => simp [intOf]; omega
    · obtain rfl : j = n0 := by omega
      go_wp2
      go_ret
      exact ⟨a', m, c', rfl, by omega, owns_base (by rw [List.take_of_length_le (by have := HL.out; omega)] at own; exact own) (by omega), b0.trans (hB.mono (by omega))⟩

set_option linter.unusedSimpArgs false in
set_option maxHeartbeats 2000000 in
theorem tell5_s (a0 : Option Addr) (n0 c0 : Nat) (rs : List Ch.Row) (a b v : Int) (w : World) (h : CellsAt w a0 (n0 * 3) (rcells rs)) (hn : n0 ≤ 1048576) :
    Calls Try.prog 68 #[.slice a0 n0 c0, .agg #[.int .i64 5, .int .i64 a, .int .i64 b, .int .i64 v]] w fun e w' => ∃ a' m c', e = .returned (.slice a' m c') ∧ m ≤ 2097152 ∧ w'.ownsRow w.heap.size 2 1 (.slice a' m c') m (icells (Ch.tell 5 a b v rs)) ∧ Below w.heap.size w w' := by
  obtain ⟨i0, hi0, hz0, hz1, hz2⟩ := info_parts Try.info2
  have HL := h.rlen
  have oE := own_empty (w.alloc (.cells #[.int .i64 5, .int .i64 a, .int .i64 b, .int .i64 v] 49)) w.heap.size 2 1 (by simp)
  have b0 : Below w.heap.size w (w.alloc (.cells #[.int .i64 5, .int .i64 a, .int .i64 b, .int .i64 v] 49)) := (Below.refl _ _).alloc (Nat.le_refl _) _
  have kE : Below w.heap.size w ((w.alloc (.cells #[.int .i64 5, .int .i64 a, .int .i64 b, .int .i64 v] 49)).alloc (.cells #[] 2)) := b0.alloc b0.size _
  have hx : ∀ W, Below (w.heap.size + 1) (w.alloc (.cells #[.int .i64 5, .int .i64 a, .int .i64 b, .int .i64 v] 49)) W → W.cell? ⟨w.heap.size, 0, none⟩ = some (.int .i64 5) ∧ W.cell? ⟨w.heap.size, 1, none⟩ = some (.int .i64 a) ∧ W.cell? ⟨w.heap.size, 2, none⟩ = some (.int .i64 b) ∧ W.cell? ⟨w.heap.size, 3, none⟩ = some (.int .i64 v) := by
    intro W hW
    have e : w.heap.size + 1 = (w.alloc (.cells #[.int .i64 5, .int .i64 a, .int .i64 b, .int .i64 v] 49)).heap.size := by simp
    rw [e] at hW
    exact ⟨box_cell hW 0, box_cell hW 1, box_cell hW 2, box_cell hW 3⟩
  have HX := hid hx
  clear hx
  have oE' : ((w.alloc (.cells #[.int .i64 5, .int .i64 a, .int .i64 b, .int .i64 v] 49)).alloc (.cells #[] 2)).ownsRow (w.heap.size + 1) 2 1 (.slice (some ⟨w.heap.size + 1, 0, none⟩) 0 0) 0 [] := by
    have := own_empty (w.alloc (.cells #[.int .i64 5, .int .i64 a, .int .i64 b, .int .i64 v] 49)) (w.heap.size + 1) 2 1 (by simp)
    simpa using this
  have kE' : Below (w.heap.size + 1) (w.alloc (.cells #[.int .i64 5, .int .i64 a, .int .i64 b, .int .i64 v] 49)) ((w.alloc (.cells #[.int .i64 5, .int .i64 a, .int .i64 b, .int .i64 v] 49)).alloc (.cells #[] 2)) := (Below.refl _ _).alloc (by simp) _
  clear oE
  go_enter Try.func68, Try.ntmps68
  go_wp2
  go_loopw [5, 6] (fun q i wr => ∃ (j m : Nat) (a' : Option Addr) (c' : Nat), j ≤ n0 ∧ m ≤ 2 * j ∧ i = .int .i64 j ∧ q = .slice a' m c' ∧ wr.ownsRow (w.heap.size + 1) 2 1 (.slice a' m c') m (icells (Ch.tell 5 a b v (rs.take j))) ∧ Below (w.heap.size + 1) (w.alloc (.cells #[.int .i64 5, .int .i64 a, .int .i64 b, .int .i64 v] 49)) wr) (fun _ i _ => n0 - (intOf i).toNat)
  case atStart => exact ⟨0, 0, _, _, Nat.zero_le _, by omega, rfl, rfl, oE', kE'⟩
  case round =>
    obtain ⟨j, m, a', c', hj, hmj, rfl, rfl, own, hB⟩ := hrel
    by_cases hlt : j < n0
    · have HT := hid (Ch.tell_snoc 5 a b v (rs := rs) (j := j) (by have := HL.out; omega))
      obtain ⟨bb, off, rfl, q0, q1, q2⟩ := (h.below (b0.trans (hB.mono (by simp)))).row hlt
      have hbl := lt_of_cell q0
      generalize rs.getD j Ch.Row.zero = r at *
      obtain ⟨rk, rv, rg⟩ := r
      simp only at q0 q1 q2
      obtain ⟨y0, y1, y2, y3⟩ := HX.out _ hB
      have hby := lt_of_cell y0
      generalize Ch.tell 5 a b v (rs.take j) = zs at *
      by_cases hc2 : (rv == v) = true
      · have HQ : Hid (Ch.tell 5 a b v (rs.take (j + 1)) = zs ++ [rk]) := HT.out.trans (by rw [Ch.tell5_y hc2])
        clear HT
        have kW : Below wr.heap.size wr (wr.alloc (.cells #[.int .i64 rk, .int .i64 rv, .bool rg] 64)) := (Below.refl _ _).alloc (Nat.le_refl _) _
        have own2 := owns_below own kW
        have bz := hB.size
        have b2 := hB.trans (kW.mono (by have := hB.size; (try simp at this); omega))
        have kQ : Below (wr.alloc (.cells #[.int .i64 rk, .int .i64 rv, .bool rg] 64)).heap.size (wr.alloc (.cells #[.int .i64 rk, .int .i64 rv, .bool rg] 64)) ((wr.alloc (.cells #[.int .i64 rk, .int .i64 rv, .bool rg] 64)).alloc (.cells #[.int .i64 rk] 2)) := (Below.refl _ _).alloc (Nat.le_refl _) _
        have own3 := owns_below own2 kQ
        have hC3 := new_int (wr.alloc (.cells #[.int .i64 rk, .int .i64 rv, .bool rg] 64)) rk 2
        rw [show (wr.alloc (.cells #[.int .i64 rk, .int .i64 rv, .bool rg] 64)).heap.size = wr.heap.size + 1 by simp] at hC3
        have hb3 : (w.heap.size + 1) ≤ ((wr.alloc (.cells #[.int .i64 rk, .int .i64 rv, .bool rg] 64)).alloc (.cells #[.int .i64 rk] 2)).heap.size := by simp at bz ⊢; omega
        have b3 := b2.trans (kQ.mono (by have := b2.size; simp at this ⊢; omega))
        have hsum : m + 1 ≤ 4194304 := by omega
        go_wp2_with (first | (at_builtin; go_must (refine wpList_appX Try.underlying24 Try.underlying24 hi0 hz0 hz1 hz2 rfl (by omega) (by omega) (.tmp 56) (.tmp 59) ?_ ?_ (w.heap.size + 1) (.slice a' m c') m (icells zs) _ 1 1 (icells [rk]) ?_ ?_ own3 hC3 (icells_one' [rk]) hsum hb3 ?_; exact rfl; exact rfl; exact rfl; exact rfl; intro a5 c5 w5 own5 gr5 at5; go_frame)))
        go_roundw
        case rel =>
          rw [← icells_append, ← HQ.out] at own5
          exact ⟨j + 1, m + 1, a5, c5, by omega, by omega, by go_num, rfl, own5, b3.grown gr5 (by have := b3.size; simp at this ⊢; omega) (fun g hg => (owns_lt own3 g hg).1)⟩
        case measure => simp [intOf]; omega
      · have hc3 : (rv == v) = false := by simpa using hc2
        clear hc2
        have HQ : Hid (Ch.tell 5 a b v (rs.take (j + 1)) = zs) := HT.out.trans (by rw [Ch.tell5_n hc3]; simp)
        clear HT
        have kW : Below wr.heap.size wr (wr.alloc (.cells #[.int .i64 rk, .int .i64 rv, .bool rg] 64)) := (Below.refl _ _).alloc (Nat.le_refl _) _
        have own2 := owns_below own kW
        have b2 := hB.trans (kW.mono (by have := hB.size; (try simp at this); omega))
        go_wp2
        go_roundw
        case rel => exact ⟨j + 1, m, a', c', by omega, by omega, by go_num, rfl, by rw [HQ.out]; exact own2, b2⟩
        case measure => simp [intOf]; omega
    · obtain rfl : j = n0 := by omega
      go_wp2
      go_ret
      exact ⟨a', m, c', rfl, by omega, owns_base (by rw [List.take_of_length_le (by have := HL.out; omega)] at own; exact own) (by omega), b0.trans (hB.mono (by omega))⟩

set_option linter.unusedSimpArgs false in
set_option maxHeartbeats 2000000 in
theorem telln_s (a0 : Option Addr) (n0 c0 : Nat) (rs : List Ch.Row) (k a b v : Int) (w : World) (h : CellsAt w a0 (n0 * 3) (rcells rs)) (hn : n0 ≤ 1048576) (hk : (k == 1) = false ∧ (k == 4) = false ∧ (k == 5) = false) :
    Calls Try.prog 68 #[.slice a0 n0 c0, .agg #[.int .i64 k, .int .i64 a, .int .i64 b, .int .i64 v]] w fun e w' => ∃ a' m c', e = .returned (.slice a' m c') ∧ m ≤ 2097152 ∧ w'.ownsRow w.heap.size 2 1 (.slice a' m c') m (icells (Ch.tell k a b v rs)) ∧ Below w.heap.size w w' := by
  obtain ⟨i0, hi0, hz0, hz1, hz2⟩ := info_parts Try.info2
  obtain ⟨k1, k4, k5⟩ := hk
  have HL := h.rlen
  have oE := own_empty (w.alloc (.cells #[.int .i64 k, .int .i64 a, .int .i64 b, .int .i64 v] 49)) w.heap.size 2 1 (by simp)
  have b0 : Below w.heap.size w (w.alloc (.cells #[.int .i64 k, .int .i64 a, .int .i64 b, .int .i64 v] 49)) := (Below.refl _ _).alloc (Nat.le_refl _) _
  have kE : Below w.heap.size w ((w.alloc (.cells #[.int .i64 k, .int .i64 a, .int .i64 b, .int .i64 v] 49)).alloc (.cells #[] 2)) := b0.alloc b0.size _
  have hx : ∀ W, Below (w.heap.size + 1) (w.alloc (.cells #[.int .i64 k, .int .i64 a, .int .i64 b, .int .i64 v] 49)) W → W.cell? ⟨w.heap.size, 0, none⟩ = some (.int .i64 k) ∧ W.cell? ⟨w.heap.size, 1, none⟩ = some (.int .i64 a) ∧ W.cell? ⟨w.heap.size, 2, none⟩ = some (.int .i64 b) ∧ W.cell? ⟨w.heap.size, 3, none⟩ = some (.int .i64 v) := by
    intro W hW
    have e : w.heap.size + 1 = (w.alloc (.cells #[.int .i64 k, .int .i64 a, .int .i64 b, .int .i64 v] 49)).heap.size := by simp
    rw [e] at hW
    exact ⟨box_cell hW 0, box_cell hW 1, box_cell hW 2, box_cell hW 3⟩
  have HX := hid hx
  clear hx
  have oE' : ((w.alloc (.cells #[.int .i64 k, .int .i64 a, .int .i64 b, .int .i64 v] 49)).alloc (.cells #[] 2)).ownsRow (w.heap.size + 1) 2 1 (.slice (some ⟨w.heap.size + 1, 0, none⟩) 0 0) 0 [] := by
    have := own_empty (w.alloc (.cells #[.int .i64 k, .int .i64 a, .int .i64 b, .int .i64 v] 49)) (w.heap.size + 1) 2 1 (by simp)
    simpa using this
  have kE' : Below (w.heap.size + 1) (w.alloc (.cells #[.int .i64 k, .int .i64 a, .int .i64 b, .int .i64 v] 49)) ((w.alloc (.cells #[.int .i64 k, .int .i64 a, .int .i64 b, .int .i64 v] 49)).alloc (.cells #[] 2)) := (Below.refl _ _).alloc (by simp) _
  clear oE
  go_enter Try.func68, Try.ntmps68
  go_wp2
  go_loopw [5, 6] (fun q i wr => ∃ (j m : Nat) (a' : Option Addr) (c' : Nat), j ≤ n0 ∧ m ≤ 2 * j ∧ i = .int .i64 j ∧ q = .slice a' m c' ∧ wr.ownsRow (w.heap.size + 1) 2 1 (.slice a' m c') m (icells (Ch.tell k a b v (rs.take j))) ∧ Below (w.heap.size + 1) (w.alloc (.cells #[.int .i64 k, .int .i64 a, .int .i64 b, .int .i64 v] 49)) wr) (fun _ i _ => n0 - (intOf i).toNat)
  case atStart => exact ⟨0, 0, _, _, Nat.zero_le _, by omega, rfl, rfl, oE', kE'⟩
  case round =>
    obtain ⟨j, m, a', c', hj, hmj, rfl, rfl, own, hB⟩ := hrel
    by_cases hlt : j < n0
    · have HT := hid (Ch.tell_snoc k a b v (rs := rs) (j := j) (by have := HL.out; omega))
      obtain ⟨bb, off, rfl, q0, q1, q2⟩ := (h.below (b0.trans (hB.mono (by simp)))).row hlt
      have hbl := lt_of_cell q0
      generalize rs.getD j Ch.Row.zero = r at *
      obtain ⟨rk, rv, rg⟩ := r
      simp only at q0 q1 q2
      obtain ⟨y0, y1, y2, y3⟩ := HX.out _ hB
      have hby := lt_of_cell y0
      generalize Ch.tell k a b v (rs.take j) = zs at *
      have HQ : Hid (Ch.tell k a b v (rs.take (j + 1)) = zs) := HT.out.trans (by rw [Ch.tellRow_none ⟨k1, k4, k5⟩]; simp)
      clear HT
      have kW : Below wr.heap.size wr (wr.alloc (.cells #[.int .i64 rk, .int .i64 rv, .bool rg] 64)) := (Below.refl _ _).alloc (Nat.le_refl _) _
      have own2 := owns_below own kW
      have b2 := hB.trans (kW.mono (by have := hB.size; (try simp at this); omega))
      go_wp2
      go_roundw
      case rel => exact ⟨j + 1, m, a', c', by omega, by omega, by go_num, rfl, by rw [HQ.out]; exact own2, b2⟩
      case measure => simp [intOf]; omega
    · obtain rfl : j = n0 := by omega
      go_wp2
      go_ret
      exact ⟨a', m, c', rfl, by omega, owns_base (by rw [List.take_of_length_le (by have := HL.out; omega)] at own; exact own) (by omega), b0.trans (hB.mono (by omega))⟩

theorem tellP_any (p : Nat) (S : Ch.Sl) (k a b v : Int) (w : World) (h : Slt w p S) :
    Calls Try.prog 43 #[.pointer (some ⟨p, 0, none⟩), .agg #[.int .i64 k, .int .i64 a, .int .i64 b, .int .i64 v]] w fun e w' => ∃ a' m c', e = .returned (.slice a' m c') ∧ m ≤ 2097152 ∧ w'.ownsRow w.heap.size 2 1 (.slice a' m c') m (icells (Ch.tell k a b v (Ch.rowsS S))) ∧ Below w.heap.size w w' := by
  rcases Ch.tell_cases k with rfl | rfl | rfl | hk
  · exact tell1_i p S a b v w h
  · exact tell4_i p S a b v w h
  · exact tell5_i p S a b v w h
  · exact telln_i p S k a b v w h hk
theorem answer_any (a0 : Option Addr) (n0 c0 : Nat) (rs : List Ch.Row) (k a b v : Int) (w : World) (h : CellsAt w a0 (n0 * 3) (rcells rs)) (hn : n0 ≤ 1048576) :
    Calls Try.prog 68 #[.slice a0 n0 c0, .agg #[.int .i64 k, .int .i64 a, .int .i64 b, .int .i64 v]] w fun e w' => ∃ a' m c', e = .returned (.slice a' m c') ∧ m ≤ 2097152 ∧ w'.ownsRow w.heap.size 2 1 (.slice a' m c') m (icells (Ch.tell k a b v rs)) ∧ Below w.heap.size w w' := by
  rcases Ch.tell_cases k with rfl | rfl | rfl | hk
  · exact tell1_s a0 n0 c0 rs a b v w h hn
  · exact tell4_s a0 n0 c0 rs a b v w h hn
  · exact tell5_s a0 n0 c0 rs a b v w h hn
  · exact telln_s a0 n0 c0 rs k a b v w h hn hk
end Go.Proofs.Ytlpncikiaojmiaa
