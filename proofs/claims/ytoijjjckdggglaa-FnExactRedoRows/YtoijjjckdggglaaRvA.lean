
/- Lists of records: how many, copied; their faults, of the program and of the model. -/
import Derived.Test.YtoijjjckdggglaaRcA
import Derived.Test.YtoijjjckdggglaaRvM
import Derived.Test.YtoijjjckdggglaaRecL
namespace Go.Proofs.Ytoijjjckdggglaa
open Go.RowKit

theorem szRecS_any (a : Option Addr) (n cap L : Nat) (w : World) (hL : L ≤ 1048576) (hm : n ≤ 9223372036854775807) :
    Calls Try.prog 7 #[.slice a n cap, .int .i64 L] w fun e w' => e = .returned (.int .i64 (if n ≤ L then (L : Int) - n else -1)) ∧ w' = w := by
  by_cases h : n ≤ L
  · rw [if_pos h]
    go_enter Try.func7, Try.ntmps7
    go_wp2
    go_ret
    exact ⟨rfl, rfl⟩
  · rw [if_neg h]
    have h' : L < n := by omega
    clear h
    go_enter Try.func7, Try.ntmps7
    go_wp2
    go_ret
    exact ⟨rfl, rfl⟩

theorem made_recs (n : Nat) : (madeCells (Value.agg #[.int .i64 0, .int .i64 0, .int .i64 0, .bool false, .int .i64 0, .bool false, .int .i64 0]).cells (n * 7)).toList = rc7 (List.replicate n Ch.Rec.zero) := by
  apply List.ext_getElem?
  intro j
  by_cases hj : j < n * 7
  · have hl : j / 7 < n := by omega
    have hm : j % 7 < 7 := Nat.mod_lt _ (by decide)
    have he : j = j / 7 * 7 + j % 7 := by omega
    have h0 := rc7_at (List.replicate n Ch.Rec.zero) (j / 7) (j % 7) (by simpa using hl) hm
    simp only [List.getD, List.getElem?_replicate, hl, if_true, Option.getD_some] at h0
    rw [← he] at h0
    rw [h0]
    have e : (madeCells (Value.agg #[.int .i64 0, .int .i64 0, .int .i64 0, .bool false, .int .i64 0, .bool false, .int .i64 0]).cells (n * 7)).toList[j]? = #[Value.int .i64 0, .int .i64 0, .int .i64 0, .bool false, .int .i64 0, .bool false, .int .i64 0][j % 7]? := by
      simp [madeCells, hj, Value.cells, hm]
    rw [e]
    simp [c7, Ch.Rec.zero]
  · have := rc7_len (List.replicate n Ch.Rec.zero)
    rw [List.getElem?_eq_none (by simp [madeCells]; omega), List.getElem?_eq_none (by rw [this]; simp; omega)]

theorem Try.info54 : (Try.prog.info? 54).map (fun i => (i.zero, i.size, i.bytes)) = some (some (.agg #[.int .i64 0, .int .i64 0, .int .i64 0, .bool false, .int .i64 0, .bool false, .int .i64 0]), 7, 56) := by kernel_rfl

/-- What the copy holds behind k rounds. -/
def copied7 (rs : List Ch.Rec) (n k : Nat) : List Value := rc7 (rs.take k ++ List.replicate (n - k) Ch.Rec.zero)

theorem copied7_end {rs : List Ch.Rec} {n : Nat} (h : n = rs.length) : copied7 rs n n = rc7 rs := by
  subst h; simp [copied7]

theorem copied7_set {rs : List Ch.Rec} {n k : Nat} (h : n = rs.length) (hk : k < n) : ((((((((copied7 rs n k).set (k * 7) (.int .i64 (rs.getD k Ch.Rec.zero).kd)).set (k * 7 + 1) (.int .i64 (rs.getD k Ch.Rec.zero).tx)).set (k * 7 + 2) (.int .i64 (rs.getD k Ch.Rec.zero).ky)).set (k * 7 + 3) (.bool (rs.getD k Ch.Rec.zero).hd)).set (k * 7 + 4) (.int .i64 (rs.getD k Ch.Rec.zero).ol)).set (k * 7 + 5) (.bool (rs.getD k Ch.Rec.zero).hs)).set (k * 7 + 6) (.int .i64 (rs.getD k Ch.Rec.zero).nw)) = copied7 rs n (k + 1) := by
  unfold copied7
  rw [rc7_set _ _ _ (by simp; omega), fill_set rs _ _ n k h hk]

set_option maxHeartbeats 2000000 in
theorem toRecS_any (a : Option Addr) (n cap : Nat) (rs : List Ch.Rec) (w : World) (h : CellsAt w a (n * 7) (rc7 rs)) (hn : n ≤ 1048576) :
    Calls Try.prog 10 #[.slice a n cap] w fun e w' => e = .returned (.slice (some ⟨w.heap.size, 0, none⟩) n n) ∧
      w'.ownsRow w.heap.size 54 7 (.slice (some ⟨w.heap.size, 0, none⟩) n n) n (rc7 rs) ∧ Below w.heap.size w w' := by
  have HL := h.len7
  obtain ⟨i0, hi, hz0, hz1, hz2⟩ := info_parts Try.info54
  go_enter Try.func10, Try.ntmps10
  go_wp2_with (at_make; refine wpList_make_full _ rfl _ _ 32 rfl w.heap.size 54 i0 (.agg #[.int .i64 0, .int .i64 0, .int .i64 0, .bool false, .int .i64 0, .bool false, .int .i64 0]) 7 Try.underlying32 hi hz0 hz1 .i64 .i64 _ _ n rfl rfl rfl rfl (by rw [hz2]; omega) (by unfold maxLen; omega) (Nat.le_refl _) ?_; intro w0 hown0 hgrow0)
  have hB0 : Below w.heap.size w w0 := (Below.refl _ _).grown hgrow0 (Nat.le_refl _) (by simp)
  go_loopw [4] (fun i wr => ∃ k : Nat, k ≤ n ∧ i = .int .i64 k ∧ wr.ownsRow w.heap.size 54 7 (.slice (some ⟨w.heap.size, 0, none⟩) n n) n (copied7 rs n k) ∧ Below w.heap.size w wr) (fun i _ => n - (intOf i).toNat)
  case atStart => exact ⟨0, Nat.zero_le _, rfl, by rw [made_recs] at hown0; simpa [copied7] using hown0, hB0⟩
  case round =>
    obtain ⟨k, hk, rfl, hown, hB⟩ := hrel
    by_cases hlt : k < n
    · obtain ⟨b, off, rfl, hc0, hc1, hc2, hc3, hc4, hc5, hc6⟩ := (h.below hB).rec hlt
      have HC : Hid (((((((((copied7 rs n k).set (k * 7) (.int .i64 (rs.getD k Ch.Rec.zero).kd)).set (k * 7 + 1) (.int .i64 (rs.getD k Ch.Rec.zero).tx)).set (k * 7 + 2) (.int .i64 (rs.getD k Ch.Rec.zero).ky)).set (k * 7 + 3) (.bool (rs.getD k Ch.Rec.zero).hd)).set (k * 7 + 4) (.int .i64 (rs.getD k Ch.Rec.zero).ol)).set (k * 7 + 5) (.bool (rs.getD k Ch.Rec.zero).hs)).set (k * 7 + 6) (.int .i64 (rs.getD k Ch.Rec.zero).nw)) = copied7 rs n (k + 1)) := copied7_set HL.out hlt
      generalize rs.getD k Ch.Rec.zero = r at *
      obtain ⟨kd, tx, ky, hd, ol, hs, nw⟩ := r
      simp only at hc0 hc1 hc2 hc3 hc4 hc5 hc6
      go_wp2_with fail
      refine (toRec_any _ _ _ _ _ _ _ _).mono ?_
      rintro e w1 ⟨rfl, b1⟩
      have hown1 := owns_below hown b1
      have hf0 := hown1.frozenAt (k * 7)
      have hf1 := hown1.frozenAt (k * 7 + 1)
      have hf2 := hown1.frozenAt (k * 7 + 2)
      have hf3 := hown1.frozenAt (k * 7 + 3)
      have hf4 := hown1.frozenAt (k * 7 + 4)
      have hf5 := hown1.frozenAt (k * 7 + 5)
      have hf6 := hown1.frozenAt (k * 7 + 6)
      obtain ⟨u0, hd0⟩ := owns_some hown1 (j := k * 7) (by omega)
      obtain ⟨u1, hd1⟩ := owns_some hown1 (j := k * 7 + 1) (by omega)
      obtain ⟨u2, hd2⟩ := owns_some hown1 (j := k * 7 + 2) (by omega)
      obtain ⟨u3, hd3⟩ := owns_some hown1 (j := k * 7 + 3) (by omega)
      obtain ⟨u4, hd4⟩ := owns_some hown1 (j := k * 7 + 4) (by omega)
      obtain ⟨u5, hd5⟩ := owns_some hown1 (j := k * 7 + 5) (by omega)
      obtain ⟨u6, hd6⟩ := owns_some hown1 (j := k * 7 + 6) (by omega)
      go_wp2
      go_roundw
      case rel =>
        refine ⟨k + 1, by omega, by go_num, ?_, ?_⟩
        · rw [← HC.out]; exact (owns_stored7 hown1 _ _ _ _ _ _ _ _).1
        · exact ((((((((hB.trans (b1.mono hB.size)).setCell (Nat.le_refl _) _).setCell (Nat.le_refl _) _).setCell (Nat.le_refl _) _).setCell (Nat.le_refl _) _).setCell (Nat.le_refl _) _).setCell (Nat.le_refl _) _).setCell (Nat.le_refl _) _)
      case measure => simp [intOf]; omega
    · obtain rfl : k = n := by omega
      go_wp2
      go_ret
      exact ⟨rfl, by rw [copied7_end HL.out] at hown; exact hown, hB⟩

theorem toRecS_at (H : Nat) (a : Option Addr) (n cap : Nat) (rs : List Ch.Rec) (w : World) (hH : w.heap.size = H) (h : CellsAt w a (n * 7) (rc7 rs)) (hn : n ≤ 1048576) :
    Calls Try.prog 10 #[.slice a n cap] w fun e w' => e = .returned (.slice (some ⟨H, 0, none⟩) n n) ∧
      w'.ownsRow H 54 7 (.slice (some ⟨H, 0, none⟩) n n) n (rc7 rs) ∧ Below w.heap.size w w' := by
  subst hH
  exact toRecS_any a n cap rs w h hn

set_option maxHeartbeats 1000000 in
theorem implRecs_any (a : Option Addr) (n cap : Nat) (rs : List Ch.Rec) (w : World) (h : CellsAt w a (n * 7) (rc7 rs)) (hn : n ≤ 1048576) :
    Calls Try.prog 31 #[.slice a n cap] w fun e w' => e = .returned (.int .i64 (Ch.recsF rs)) ∧ Below w.heap.size w w' := by
  have HL := h.len7
  by_cases h8 : 800 < n
  · have HF : Hid (Ch.recsF rs = 2) := Ch.recsF_many (by have := HL.out; omega)
    rw [HF.out]
    go_enter Try.func31, Try.ntmps31
    go_wp2
    go_ret
    exact ⟨rfl, Below.refl _ _⟩
  · have HF : Hid (Ch.recsF rs = Ch.recsAt rs rs.length) := Ch.recsF_few (by have := HL.out; omega)
    have h8' : n ≤ 800 := by omega
    rw [HF.out]
    clear h8
    obtain ⟨c, HC⟩ : ∃ c, Hid (Ch.recsAt rs rs.length = c) := ⟨_, rfl⟩
    rw [HC.out]
    go_enter Try.func31, Try.ntmps31
    go_wp2
    go_loopw [11] (fun i wr => ∃ k : Nat, k ≤ n ∧ i = .int .i64 k ∧ Hid (Ch.recsAt rs k = 0) ∧ Below w.heap.size w wr) (fun i _ => n - (intOf i).toNat)
    case atStart => exact ⟨0, Nat.zero_le _, rfl, rfl, Below.refl _ _⟩
    case round =>
      obtain ⟨k, hk, rfl, H0, hB⟩ := hrel
      by_cases hlt : k < n
      · have HS := hid (Ch.recsAt_step (by have := HL.out; omega : k < rs.length) H0.out)
        obtain ⟨b, off, rfl, hc0, hc1, hc2, hc3, hc4, hc5, hc6⟩ := (h.below hB).rec hlt
        generalize rs.getD k Ch.Rec.zero = r at *
        obtain ⟨kd, tx, ky, hd, ol, hs, nw⟩ := r
        simp only at hc0 hc1 hc2 hc3 hc4 hc5 hc6
        have IR := fun W => implRec_any kd tx ky hd ol hs nw W
        generalize Ch.Rec.fault ⟨kd, tx, ky, hd, ol, hs, nw⟩ = q at *
        go_wp2_with fail
        refine (IR _).mono ?_
        rintro e w1 ⟨rfl, b1⟩
        have b1' : Below w.heap.size w w1 := hB.trans ((below_box b1).mono hB.size)
        clear IR
        by_cases h0 : q = 0
        · subst h0
          go_wp2
          go_roundw
          case rel => exact ⟨k + 1, by omega, by go_num, HS.out, b1'⟩
          case measure => simp [intOf]; omega
        · have hq : (q != 0) = true := by simpa using h0
          have HQ := hid ((Ch.recsAt_stays HS.out hq).symm.trans HC.out)
          clear h0
          go_wp2
          go_ret
          exact ⟨ret_int HQ.out, b1'⟩
      · obtain rfl : k = n := by omega
        have HQ : Hid (0 = c) := by have h1 := H0.out; rw [HL.out] at h1; exact h1.symm.trans HC.out
        go_wp2
        go_ret
        exact ⟨ret_int HQ.out, hB⟩

set_option maxHeartbeats 1000000 in
theorem specRecs_any (a : Option Addr) (n cap : Nat) (rs : List Ch.Rec) (w : World) (h : CellsAt w a (n * 7) (rc7 rs)) (hn : n ≤ 1048576) :
    Calls Try.prog 26 #[.slice a n cap] w fun e w' => e = .returned (.int .i64 (Ch.recsF rs)) ∧ Below w.heap.size w w' := by
  have HL := h.len7
  by_cases h8 : 800 < n
  · have HF : Hid (Ch.recsF rs = 2) := Ch.recsF_many (by have := HL.out; omega)
    rw [HF.out]
    go_enter Try.func26, Try.ntmps26
    go_wp2
    go_ret
    exact ⟨rfl, Below.refl _ _⟩
  · have HF : Hid (Ch.recsF rs = Ch.recsAt rs rs.length) := Ch.recsF_few (by have := HL.out; omega)
    have h8' : n ≤ 800 := by omega
    rw [HF.out]
    clear h8
    obtain ⟨c, HC⟩ : ∃ c, Hid (Ch.recsAt rs rs.length = c) := ⟨_, rfl⟩
    rw [HC.out]
    go_enter Try.func26, Try.ntmps26
    go_wp2
    go_loopw [3] (fun i wr => ∃ k : Nat, k ≤ n ∧ i = .int .i64 k ∧ Hid (Ch.recsAt rs k = 0) ∧ Below w.heap.size w wr) (fun i _ => n - (intOf i).toNat)
    case atStart => exact ⟨0, Nat.zero_le _, rfl, rfl, Below.refl _ _⟩
    case round =>
      obtain ⟨k, hk, rfl, H0, hB⟩ := hrel
      by_cases hlt : k < n
      · have HS := hid (Ch.recsAt_step (by have := HL.out; omega : k < rs.length) H0.out)
        obtain ⟨b, off, rfl, hc0, hc1, hc2, hc3, hc4, hc5, hc6⟩ := (h.below hB).rec hlt
        generalize rs.getD k Ch.Rec.zero = r at *
        obtain ⟨kd, tx, ky, hd, ol, hs, nw⟩ := r
        simp only at hc0 hc1 hc2 hc3 hc4 hc5 hc6
        have IR := fun W => specRec_any kd tx ky hd ol hs nw W
        generalize Ch.Rec.fault ⟨kd, tx, ky, hd, ol, hs, nw⟩ = q at *
        go_wp2_with fail
        refine (IR _).mono ?_
        rintro e w1 ⟨rfl, b1⟩
        have b1' : Below w.heap.size w w1 := hB.trans (b1.mono hB.size)
        clear IR
        by_cases h0 : q = 0
        · subst h0
          go_wp2
          go_roundw
          case rel => exact ⟨k + 1, by omega, by go_num, HS.out, b1'⟩
          case measure => simp [intOf]; omega
        · have hq : (q != 0) = true := by simpa using h0
          have HQ := hid ((Ch.recsAt_stays HS.out hq).symm.trans HC.out)
          clear h0
          go_wp2
          go_ret
          exact ⟨ret_int HQ.out, b1'⟩
      · obtain rfl : k = n := by omega
        have HQ : Hid (0 = c) := by have h1 := H0.out; rw [HL.out] at h1; exact h1.symm.trans HC.out
        go_wp2
        go_ret
        exact ⟨ret_int HQ.out, hB⟩

end Go.Proofs.Ytoijjjckdggglaa
