/- Walks of PageFault: of the model, of the program. -/
import Derived.Test.YthkbaabfhbjbgaaRowsW
namespace Go.Proofs.Ythkbaabfhbjbgaa
open Go.RowKit

theorem returned_int {k : IntKind} {a b : Int} (h : a = b) : Ending.returned (.int k a) = .returned (.int k b) := by rw [h]

set_option maxHeartbeats 800000 in
theorem rise_any (a : Option Addr) (n cap : Nat) (rs : List Ch.Row) (w : World) (h : CellsAt w a (n * 3) (rcells rs)) (hn : n ≤ 1099511627776) :
    Calls Try.prog 48 #[.slice a n cap] w fun e w' => e = .returned (.int .i64 (Ch.rise rs)) ∧ Below w.heap.size w w' := by
  have HL := h.rlen
  go_enter Try.func48, Try.ntmps48
  go_wp2
  go_loopw [3] (fun i wr => ∃ k : Nat, k ≤ n ∧ i = .int .i64 k ∧ Hid (Ch.rise rs = Ch.riseAt rs k) ∧ Below w.heap.size w wr) (fun i _ => n - (intOf i).toNat)
  case atStart => exact ⟨0, Nat.zero_le _, rfl, rfl, Below.refl _ _⟩
  case round =>
    obtain ⟨k, hk, rfl, HR, hB⟩ := hrel
    by_cases hlt : k < n
    · have hkl : k < rs.length := by have := HL.out; omega
      have HF : Hid (((rs.getD k Ch.Row.zero).fault != 0) = true → Ch.rise rs = (rs.getD k Ch.Row.zero).fault) := fun hf => HR.out.trans (Ch.riseAt_fault rs k hkl hf)
      obtain ⟨b, off, rfl, hc0, hc1, hc2⟩ := (h.below hB).row hlt
      cases k with
      | zero =>
        have HN : Hid (((rs.getD 0 Ch.Row.zero).fault != 0) = false → Ch.rise rs = Ch.riseAt rs 1) := fun hf => HR.out.trans (Ch.riseAt_first rs hkl hf)
        generalize rs.getD 0 Ch.Row.zero = r at *
        obtain ⟨rk, rv, rg⟩ := r
        simp only [Ch.Row.fault, Nat.zero_mul, Nat.add_zero] at hc0 hc1 hc2 HF HN
        have hd : decide ((0 : Int) < ((0 : Nat) : Int)) = false := by simp
        cases hf : (Ch.rowFault rk rv rg != 0)
        · go_wp2_with fail
          refine (specRow_any _ _ _ _).mono ?_
          rintro e w1 ⟨rfl, b1⟩
          have hB1 := hB.trans (b1.mono hB.size)
          go_wp2
          go_quiet (fail)
          go_wp2
          go_roundw
          case rel => exact ⟨1, by omega, by go_num, HN.out hf, below_drewN hB1 _⟩
          case measure => simp [intOf]; omega
        · go_wp2_with fail
          refine (specRow_any _ _ _ _).mono ?_
          rintro e w1 ⟨rfl, b1⟩
          have hB1 := hB.trans (b1.mono hB.size)
          go_wp2
          go_ret
          exact ⟨returned_int (HF.out hf).symm, hB1⟩
      | succ j =>
        have HN : Hid (((rs.getD (j + 1) Ch.Row.zero).fault != 0) = false → ¬ (rs.getD (j + 1) Ch.Row.zero).k ≤ (rs.getD j Ch.Row.zero).k → Ch.rise rs = Ch.riseAt rs (j + 1 + 1)) := fun hf hl => HR.out.trans (Ch.riseAt_on rs j hkl hf hl)
        have HM : Hid (((rs.getD (j + 1) Ch.Row.zero).fault != 0) = false → (rs.getD (j + 1) Ch.Row.zero).k ≤ (rs.getD j Ch.Row.zero).k → Ch.rise rs = 1) := fun hf hl => HR.out.trans (Ch.riseAt_low rs j hkl hf hl)
        obtain ⟨b', off', hbo, hp0, _, _⟩ := (h.below hB).row (show j < n by omega)
        simp only [Option.some.injEq, Addr.mk.injEq, and_true] at hbo
        obtain ⟨rfl, rfl⟩ := hbo
        generalize rs.getD (j + 1) Ch.Row.zero = r at *
        generalize (rs.getD j Ch.Row.zero).k = pk at *
        obtain ⟨rk, rv, rg⟩ := r
        simp only [Ch.Row.fault] at hc0 hc1 hc2 HF HN HM
        have hd : (0 : Int) < ((j + 1 : Nat) : Int) := by omega
        cases hf : (Ch.rowFault rk rv rg != 0)
        · by_cases hle : rk ≤ pk
          · go_wp2_with fail
            refine (specRow_any _ _ _ _).mono ?_
            rintro e w1 ⟨rfl, b1⟩
            have hB1 := hB.trans (b1.mono hB.size)
            have d0 := keep_cell b1 hc0
            have q0 := keep_cell b1 hp0
            clear hc0 hc1 hc2 hp0
            go_wp2
            go_quiet (fail)
            go_wp2
            go_ret
            exact ⟨returned_int (HM.out hf hle).symm, below_drewN hB1 _⟩
          · go_wp2_with fail
            refine (specRow_any _ _ _ _).mono ?_
            rintro e w1 ⟨rfl, b1⟩
            have hB1 := hB.trans (b1.mono hB.size)
            have d0 := keep_cell b1 hc0
            have q0 := keep_cell b1 hp0
            clear hc0 hc1 hc2 hp0
            go_wp2
            go_quiet (fail)
            go_wp2
            go_roundw
            case rel => exact ⟨j + 1 + 1, by omega, by go_num, HN.out hf (by omega), below_drewN hB1 _⟩
            case measure => simp [intOf]; omega
        · go_wp2_with fail
          refine (specRow_any _ _ _ _).mono ?_
          rintro e w1 ⟨rfl, b1⟩
          have hB1 := hB.trans (b1.mono hB.size)
          go_wp2
          go_ret
          exact ⟨returned_int (HF.out hf).symm, hB1⟩
    · obtain rfl : k = n := by omega
      go_wp2
      go_ret
      exact ⟨returned_int (by rw [HR.out, Ch.riseAt_end _ _ (by have := HL.out; omega)]), hB⟩

theorem specPage_any (a : Option Addr) (n cap : Nat) (rs : List Ch.Row) (w : World) (h : CellsAt w a (n * 3) (rcells rs)) (hn : n ≤ 1099511627776) :
    Calls Try.prog 15 #[.slice a n cap] w fun e w' => e = .returned (.int .i64 (Ch.pageFault rs)) ∧ Below w.heap.size w w' := by
  have HL := h.rlen
  by_cases h4 : 4 < n
  · go_enter Try.func15, Try.ntmps15
    go_wp2
    go_ret
    exact ⟨returned_int (by rw [Ch.pageFault, if_pos (by have := HL.out; omega)]), Below.refl _ _⟩
  · go_enter Try.func15, Try.ntmps15
    go_wp2_with fail
    refine (rise_any a n cap rs w h hn).mono ?_
    rintro e w1 ⟨rfl, b1⟩
    go_wp2
    go_ret
    exact ⟨returned_int (by rw [Ch.pageFault, if_neg (by have := HL.out; omega)]), b1⟩

set_option maxHeartbeats 800000 in
theorem implPage_any (a : Option Addr) (n cap : Nat) (rs : List Ch.Row) (w : World) (h : CellsAt w a (n * 3) (rcells rs)) (hn : n ≤ 1099511627776) :
    Calls Try.prog 16 #[.slice a n cap] w fun e w' => e = .returned (.int .i64 (Ch.pageFault rs)) ∧ Below w.heap.size w w' := by
  have HL := h.rlen
  by_cases h4 : 4 < n
  · go_enter Try.func16, Try.ntmps16
    go_wp2
    go_ret
    exact ⟨returned_int (by rw [Ch.pageFault, if_pos (by have := HL.out; omega)]), Below.refl _ _⟩
  have HP : Hid (Ch.pageFault rs = Ch.rise rs) := by
    show _ = _
    rw [Ch.pageFault, if_neg (by have := HL.out; omega)]
  have hd4 : decide ((4 : Int) < (n : Int)) = false := by simp; omega
  go_enter Try.func16, Try.ntmps16
  go_wp2
  go_loopw [11] (fun i wr => ∃ k : Nat, k ≤ n ∧ i = .int .i64 k ∧ Hid (Ch.pageFault rs = Ch.riseAt rs k) ∧ Below w.heap.size w wr) (fun i _ => n - (intOf i).toNat)
  case atStart => exact ⟨0, Nat.zero_le _, rfl, HP.out, Below.refl _ _⟩
  case round =>
    clear HP
    obtain ⟨k, hk, rfl, HR, hB⟩ := hrel
    by_cases hlt : k < n
    · have hkl : k < rs.length := by have := HL.out; omega
      have HF : Hid (((rs.getD k Ch.Row.zero).fault != 0) = true → Ch.pageFault rs = (rs.getD k Ch.Row.zero).fault) := fun hf => HR.out.trans (Ch.riseAt_fault rs k hkl hf)
      obtain ⟨b, off, rfl, hc0, hc1, hc2⟩ := (h.below hB).row hlt
      have hbl := lt_of_cell hc0
      cases k with
      | zero =>
        have HN : Hid (((rs.getD 0 Ch.Row.zero).fault != 0) = false → Ch.pageFault rs = Ch.riseAt rs 1) := fun hf => HR.out.trans (Ch.riseAt_first rs hkl hf)
        generalize rs.getD 0 Ch.Row.zero = r at *
        obtain ⟨rk, rv, rg⟩ := r
        simp only [Ch.Row.fault, Nat.zero_mul, Nat.add_zero] at hc0 hc1 hc2 HF HN
        have hd : decide ((0 : Int) < ((0 : Nat) : Int)) = false := by simp
        cases hf : (Ch.rowFault rk rv rg != 0)
        · go_wp2_with fail
          refine (implRow_any _ _ _ _).mono ?_
          rintro e w1 ⟨rfl, b1⟩
          have b1w := below_box b1
          have hB1 := hB.trans (b1w.mono hB.size)
          have x0 := box_cell b1 0
          simp only [List.getElem?_toArray, List.getElem?_cons_zero] at x0
          clear hc0 hc1 hc2
          go_wp2
          go_quiet (fail)
          go_wp2
          go_roundw
          case rel => exact ⟨1, by omega, by go_num, HN.out hf, below_drewN hB1 _⟩
          case measure => simp [intOf]; omega
        · go_wp2_with fail
          refine (implRow_any _ _ _ _).mono ?_
          rintro e w1 ⟨rfl, b1⟩
          have b1w := below_box b1
          have hB1 := hB.trans (b1w.mono hB.size)
          have x0 := box_cell b1 0
          simp only [List.getElem?_toArray, List.getElem?_cons_zero] at x0
          clear hc0 hc1 hc2
          go_wp2
          go_ret
          exact ⟨returned_int (HF.out hf).symm, hB1⟩
      | succ j =>
        have HN : Hid (((rs.getD (j + 1) Ch.Row.zero).fault != 0) = false → ¬ (rs.getD (j + 1) Ch.Row.zero).k ≤ (rs.getD j Ch.Row.zero).k → Ch.pageFault rs = Ch.riseAt rs (j + 1 + 1)) := fun hf hl => HR.out.trans (Ch.riseAt_on rs j hkl hf hl)
        have HM : Hid (((rs.getD (j + 1) Ch.Row.zero).fault != 0) = false → (rs.getD (j + 1) Ch.Row.zero).k ≤ (rs.getD j Ch.Row.zero).k → Ch.pageFault rs = 1) := fun hf hl => HR.out.trans (Ch.riseAt_low rs j hkl hf hl)
        obtain ⟨b', off', hbo, hp0, _, _⟩ := (h.below hB).row (show j < n by omega)
        simp only [Option.some.injEq, Addr.mk.injEq, and_true] at hbo
        obtain ⟨rfl, rfl⟩ := hbo
        generalize rs.getD (j + 1) Ch.Row.zero = r at *
        generalize (rs.getD j Ch.Row.zero).k = pk at *
        obtain ⟨rk, rv, rg⟩ := r
        simp only [Ch.Row.fault] at hc0 hc1 hc2 HF HN HM
        have hd : (0 : Int) < ((j + 1 : Nat) : Int) := by omega
        cases hf : (Ch.rowFault rk rv rg != 0)
        · by_cases hle : rk ≤ pk
          · go_wp2_with fail
            refine (implRow_any _ _ _ _).mono ?_
            rintro e w1 ⟨rfl, b1⟩
            have b1w := below_box b1
            have hB1 := hB.trans (b1w.mono hB.size)
            have x0 := box_cell b1 0
            simp only [List.getElem?_toArray, List.getElem?_cons_zero] at x0
            have q0 := keep_cell b1w hp0
            clear hc0 hc1 hc2 hp0
            go_wp2
            go_quiet (fail)
            go_wp2
            go_ret
            exact ⟨returned_int (HM.out hf hle).symm, below_drewN hB1 _⟩
          · go_wp2_with fail
            refine (implRow_any _ _ _ _).mono ?_
            rintro e w1 ⟨rfl, b1⟩
            have b1w := below_box b1
            have hB1 := hB.trans (b1w.mono hB.size)
            have x0 := box_cell b1 0
            simp only [List.getElem?_toArray, List.getElem?_cons_zero] at x0
            have q0 := keep_cell b1w hp0
            clear hc0 hc1 hc2 hp0
            go_wp2
            go_quiet (fail)
            go_wp2
            go_roundw
            case rel => exact ⟨j + 1 + 1, by omega, by go_num, HN.out hf (by omega), below_drewN hB1 _⟩
            case measure => simp [intOf]; omega
        · go_wp2_with fail
          refine (implRow_any _ _ _ _).mono ?_
          rintro e w1 ⟨rfl, b1⟩
          have b1w := below_box b1
          have hB1 := hB.trans (b1w.mono hB.size)
          have x0 := box_cell b1 0
          simp only [List.getElem?_toArray, List.getElem?_cons_zero] at x0
          clear hc0 hc1 hc2
          go_wp2
          go_ret
          exact ⟨returned_int (HF.out hf).symm, hB1⟩
    · obtain rfl : k = n := by omega
      go_wp2
      go_ret
      exact ⟨returned_int (by rw [HR.out, Ch.riseAt_end _ _ (by have := HL.out; omega)]), hB⟩

set_option maxHeartbeats 400000 in
theorem lawPage_any (a : Option Addr) (n cap : Nat) (rs : List Ch.Row) (w : World) (h : CellsAt w a (n * 3) (rcells rs)) (hm : n ≤ 9223372036854775807) :
    Calls Try.prog 5 #[.slice a n cap] w fun e w' => e = .returned (.bool true) ∧ Below w.heap.size w w' := by
  by_cases hbig : 1048576 < n
  · go_enter Try.func5, Try.ntmps5
    go_wp2_with fail
    refine (sz_big _ n _ _ hbig hm).mono ?_
    rintro e w1 ⟨rfl, rfl⟩
    go_wp2
    go_ret
    exact ⟨rfl, Below.refl _ _⟩
  · have hsm : n ≤ 1048576 := by omega
    clear hbig
    go_enter Try.func5, Try.ntmps5
    go_wp2_with fail
    refine (sz_ok _ n _ _ hsm).mono ?_
    rintro e w0 ⟨rfl, rfl⟩
    go_wp2_with fail
    refine (toRowS_any a n cap rs _ h hsm).mono ?_
    rintro e w1 ⟨rfl, o1, b1⟩
    go_wp2_with fail
    refine (specPage_any _ n n rs _ (owns_cells o1) (by omega)).mono ?_
    rintro e w2 ⟨rfl, b2⟩
    have b2' := b1.trans (b2.mono b1.size)
    go_wp2_with fail
    refine (toRowS_any a n cap rs _ (h.below b2') hsm).mono ?_
    rintro e w3 ⟨rfl, o3, b3⟩
    have b3' := b2'.trans (b3.mono b2'.size)
    go_wp2_with fail
    refine (implPage_any _ n n rs _ (owns_cells o3) (by omega)).mono ?_
    rintro e w4 ⟨rfl, b4⟩
    have b4' := b3'.trans (b4.mono b3'.size)
    have o4 := owns_below o3 b4
    go_wp2_with fail
    refine (toRowS_any a n cap rs _ (h.below b4') hsm).mono ?_
    rintro e w5 ⟨rfl, o5, b5⟩
    have b5' := b4'.trans (b5.mono b4'.size)
    have o4' := owns_below o4 b5
    go_wp2_with fail
    refine (eqRowS_same _ _ n n n rs _ (owns_cells o4') (owns_cells o5) (by omega)).mono ?_
    rintro e w6 ⟨rfl, b6⟩
    go_wp2
    go_ret
    exact ⟨rfl, b5'.trans (b6.mono b5'.size)⟩
end Go.Proofs.Ythkbaabfhbjbgaa
