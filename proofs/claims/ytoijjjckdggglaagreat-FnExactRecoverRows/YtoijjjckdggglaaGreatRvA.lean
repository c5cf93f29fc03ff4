
/- Lists of records: how many, copied; their faults, of the program and of the model. -/
import Derived.Test.YtoijjjckdggglaaGreatRcA
import Derived.Test.YtoijjjckdggglaaGreatRvM
import Derived.Test.YtoijjjckdggglaaGreatRecL
namespace Go.Proofs.YtoijjjckdggglaaGreat
open Go.RowKit

theorem made_recs (n : Nat) : (madeCells (Value.agg #[.int .i64 0, .int .i64 0, .int .i64 0, .bool false, .int .i64 0, .bool false, .int .i64 0]).cells (n * 7)).toList = rc7 (List.replicate n Ch.Rec.zero) := by
  apply List.ext_getElem?
  intro j
  by_cases hj : j < n * 7
  · have hl : j / 7 < n := by omega
    have hm : j % 7 < 7 := Nat.mod_lt _ (by decide)
    have he : j = j / 7 * 7 + j % 7 := by omega
    have h0 := rc7_at (List.replicate n Ch.Rec.zero) (j / 7) (j % 7) (by simpa using hl) hm
    simp only [List.getD, List.getElem?_replicate, hl, if_true, Option.getD_some] at h0
    rw [← he] at h0
    rw [h0]
    have e : (madeCells (Value.agg #[.int .i64 0, .int .i64 0, .int .i64 0, .bool false, .int .i64 0, .bool false, .int .i64 0]).cells (n * 7)).toList[j]? = #[Value.int .i64 0, .int .i64 0, .int .i64 0, .bool false, .int .i64 0, .bool false, .int .i64 0][j % 7]? := by
      simp [madeCells, hj, Value.cells, hm]
    rw [e]
    simp [c7, Ch.Rec.zero]
  · have := rc7_len (List.replicate n Ch.Rec.zero)
    rw [List.getElem?_eq_none (by simp [madeCells]; omega), List.getElem?_eq_none (by rw [this]; simp; omega)]

theorem Tryz.info54 : (Tryz.prog.info? 54).map (fun i => (i.zero, i.size, i.bytes)) = some (some (.agg #[.int .i64 0, .int .i64 0, .int .i64 0, .bool false, .int .i64 0, .bool false, .int .i64 0]), 7, 56) := by kernel_rfl

/-- What the copy holds behind k rounds. -/
def copied7 (rs : List Ch.Rec) (n k : Nat) : List Value := rc7 (rs.take k ++ List.replicate (n - k) Ch.Rec.zero)

theorem copied7_end {rs : List Ch.Rec} {n : Nat} (h : n = rs.length) : copied7 rs n n = rc7 rs := by
  subst h; simp [copied7]

theorem copied7_set {rs : List Ch.Rec} {n k : Nat} (h : n = rs.length) (hk : k < n) : ((((((((copied7 rs n k).set (k * 7) (.int .i64 (rs.getD k Ch.Rec.zero).kd)).set (k * 7 + 1) (.int .i64 (rs.getD k Ch.Rec.zero).tx)).set (k * 7 + 2) (.int .i64 (rs.getD k Ch.Rec.zero).ky)).set (k * 7 + 3) (.bool (rs.getD k Ch.Rec.zero).hd)).set (k * 7 + 4) (.int .i64 (rs.getD k Ch.Rec.zero).ol)).set (k * 7 + 5) (.bool (rs.getD k Ch.Rec.zero).hs)).set (k * 7 + 6) (.int .i64 (rs.getD k Ch.Rec.zero).nw)) = copied7 rs n (k + 1) := by
  unfold copied7
  rw [rc7_set _ _ _ (by simp; omega), fill_set rs _ _ n k h hk]

set_option maxHeartbeats 1000000 in
theorem implRecs_any (a : Option Addr) (n cap : Nat) (rs : List Ch.Rec) (w : World) (h : CellsAt w a (n * 7) (rc7 rs)) (hn : n ≤ 1048576) :
    Calls Tryz.prog 31 #[.slice a n cap] w fun e w' => e = .returned (.int .i64 (Ch.recsF rs)) ∧ Below w.heap.size w w' := by
  have HL := h.len7
  by_cases h8 : 800 < n
  · have HF : Hid (Ch.recsF rs = 2) := Ch.recsF_many (by have := HL.out; omega)
    rw [HF.out]
    go_enter Tryz.func31, Tryz.ntmps31
    go_wp2
    go_ret
    exact ⟨rfl, Below.refl _ _⟩
  · have HF : Hid (Ch.recsF rs = Ch.recsAt rs rs.length) := Ch.recsF_few (by have := HL.out; omega)
    have h8' : n ≤ 800 := by omega
    rw [HF.out]
    clear h8
    obtain ⟨c, HC⟩ : ∃ c, Hid (Ch.recsAt rs rs.length = c) := ⟨_, rfl⟩
    rw [HC.out]
    go_enter Tryz.func31, Tryz.ntmps31
    go_wp2
    go_loopw [11] (fun i wr => ∃ k : Nat, k ≤ n ∧ i = .int .i64 k ∧ Hid (Ch.recsAt rs k = 0) ∧ Below w.heap.size w wr) (fun i _ => n - (intOf i).toNat)
    case atStart => exact ⟨0, Nat.zero_le _, rfl, rfl, Below.refl _ _⟩
    case round =>
      obtain ⟨k, hk, rfl, H0, hB⟩ := hrel
      by_cases hlt : k < n
      · have HS := hid (Ch.recsAt_step (by have := HL.out; omega : k < rs.length) H0.out)
        obtain ⟨b, off, rfl, hc0, hc1, hc2, hc3, hc4, hc5, hc6⟩ := (h.below hB).rec hlt
        generalize rs.getD k Ch.Rec.zero = r at *
        obtain ⟨kd, tx, ky, hd, ol, hs, nw⟩ := r
        simp only at hc0 hc1 hc2 hc3 hc4 hc5 hc6
        have IR := fun W => implRec_any kd tx ky hd ol hs nw W
        generalize Ch.Rec.fault ⟨kd, tx, ky, hd, ol, hs, nw⟩ = q at *
        go_wp2_with fail
        refine (IR _).mono ?_
        rintro e w1 ⟨rfl, b1⟩
        have b1' : Below w.heap.size w w1 := hB.trans ((below_box b1).mono hB.size)
        clear IR
        by_cases h0 : q = 0
        · subst h0
          go_wp2
          go_roundw
          case rel => exact ⟨k + 1, by omega, by go_num, HS.out, b1'⟩
          case measure => simp [intOf]; omega
        · have hq : (q != 0) = true := by simpa using h0
          have HQ := hid ((Ch.recsAt_stays HS.out hq).symm.trans HC.out)
          clear h0
          go_wp2
          go_ret
          exact ⟨ret_int HQ.out, b1'⟩
      · obtain rfl : k = n := by omega
        have HQ : Hid (0 = c) := by have h1 := H0.out; rw [HL.out] at h1; exact h1.symm.trans HC.out
        go_wp2
        go_ret
        exact ⟨ret_int HQ.out, hB⟩

set_option maxHeartbeats 1000000 in
theorem specRecs_any (a : Option Addr) (n cap : Nat) (rs : List Ch.Rec) (w : World) (h : CellsAt w a (n * 7) (rc7 rs)) (hn : n ≤ 1048576) :
    Calls Tryz.prog 27 #[.slice a n cap] w fun e w' => e = .returned (.int .i64 (Ch.recsF rs)) ∧ Below w.heap.size w w' := by
  have HL := h.len7
  by_cases h8 : 800 < n
  · have HF : Hid (Ch.recsF rs = 2) := Ch.recsF_many (by have := HL.out; omega)
    rw [HF.out]
    go_enter Tryz.func27, Tryz.ntmps27
    go_wp2
    go_ret
    exact ⟨rfl, Below.refl _ _⟩
  · have HF : Hid (Ch.recsF rs = Ch.recsAt rs rs.length) := Ch.recsF_few (by have := HL.out; omega)
    have h8' : n ≤ 800 := by omega
    rw [HF.out]
    clear h8
    obtain ⟨c, HC⟩ : ∃ c, Hid (Ch.recsAt rs rs.length = c) := ⟨_, rfl⟩
    rw [HC.out]
    go_enter Tryz.func27, Tryz.ntmps27
    go_wp2
    go_loopw [3] (fun i wr => ∃ k : Nat, k ≤ n ∧ i = .int .i64 k ∧ Hid (Ch.recsAt rs k = 0) ∧ Below w.heap.size w wr) (fun i _ => n - (intOf i).toNat)
    case atStart => exact ⟨0, Nat.zero_le _, rfl, rfl, Below.refl _ _⟩
    case round =>
      obtain ⟨k, hk, rfl, H0, hB⟩ := hrel
      by_cases hlt : k < n
      · have HS := hid (Ch.recsAt_step (by have := HL.out; omega : k < rs.length) H0.out)
        obtain ⟨b, off, rfl, hc0, hc1, hc2, hc3, hc4, hc5, hc6⟩ := (h.below hB).rec hlt
        generalize rs.getD k Ch.Rec.zero = r at *
        obtain ⟨kd, tx, ky, hd, ol, hs, nw⟩ := r
        simp only at hc0 hc1 hc2 hc3 hc4 hc5 hc6
        have IR := fun W => specRec_any kd tx ky hd ol hs nw W
        generalize Ch.Rec.fault ⟨kd, tx, ky, hd, ol, hs, nw⟩ = q at *
        go_wp2_with fail
        refine (IR _).mono ?_
        rintro e w1 ⟨rfl, b1⟩
        have b1' : Below w.heap.size w w1 := hB.trans (b1.mono hB.size)
        clear IR
        by_cases h0 : q = 0
        · subst h0
          go_wp2
          go_roundw
          case rel => exact ⟨k + 1, by omega, by go_num, HS.out, b1'⟩
          case measure => simp [intOf]; omega
        · have hq : (q != 0) = true := by simpa using h0
          have HQ := hid ((Ch.recsAt_stays HS.out hq).symm.trans HC.out)
          clear h0
          go_wp2
          go_ret
          exact ⟨ret_int HQ.out, b1'⟩
      · obtain rfl : k = n := by omega
        have HQ : Hid (0 = c) := by have h1 := H0.out; rw [HL.out] at h1; exact h1.symm.trans HC.out
        go_wp2
        go_ret
        exact ⟨ret_int HQ.out, hB⟩

end Go.Proofs.YtoijjjckdggglaaGreat
