
/- slotsOf, redo, rows of the program. -/
import Derived.Test.YtoijjjckdggglaaRdB
import Derived.Test.YtoijjjckdggglaaNwB
namespace Go.Proofs.Ytoijjjckdggglaa
open Go.RowKit

theorem buildSlots (w : World) : (Instr.build 83 #[]).run Try.prog w = .ok (.agg (slA (fun _ => none))) w := by kernel_rfl
theorem Ch.row_key {r : Ch.Row} (h : r.fault = 0) : 0 ≤ r.k ∧ r.k ≤ 99 := by
  have := Ch.fits_of_fault h
  unfold Ch.Row.fits at this
  omega

set_option maxRecDepth 20000 in
set_option maxHeartbeats 2000000 in
theorem slots_any (a : Option Addr) (n cap : Nat) (rs : List Ch.Row) (w : World) (h : CellsAt w a (n * 3) (rcells rs)) (hn : n ≤ 240) (hf : ∀ k, k < rs.length → (rs.getD k Ch.Row.zero).fault = 0) :
    Calls Try.prog 34 #[.slice a n cap] w fun e w' => e = .returned (.pointer (some ⟨w.heap.size, 0, none⟩)) ∧ Slt w' w.heap.size (Ch.baseTo rs rs.length) ∧ Below w.heap.size w w' := by
  have HL := h.rlen
  have HF := hid hf
  clear hf
  have hbd := buildSlots
  have h0 : Slt (w.alloc (.cells (slA (fun _ => none)) 83)) w.heap.size (Ch.baseTo rs 0) := heap_alloc_new w _
  go_enter Try.func34, Try.ntmps34
  go_wp2
  go_loopw [10] (fun i wr => ∃ k : Nat, k ≤ n ∧ i = .int .i64 k ∧ Slt wr w.heap.size (Ch.baseTo rs k) ∧ Below w.heap.size w wr) (fun i _ => n - (intOf i).toNat)
  case atStart => exact ⟨0, Nat.zero_le _, rfl, h0, (Below.refl _ _).alloc (Nat.le_refl _) _⟩
  case round =>
    clear h0 hbd
    obtain ⟨k, hk, rfl, hS, hB⟩ := hrel
    by_cases hlt : k < n
    · have hkl : k < rs.length := by have := HL.out; omega
      have HK := hid (Ch.row_key (HF.out k hkl))
      have HT := hid (Ch.baseTo_step (rs := rs) hkl)
      obtain ⟨b, off, rfl, q0, q1, q2⟩ := (h.below hB).row hlt
      have hbl := lt_of_cell q0
      generalize rs.getD k Ch.Row.zero = r at *
      obtain ⟨rk, rv, rg⟩ := r
      simp only at q0 q1 q2 HT HK
      have hkk : 0 ≤ rk ∧ rk ≤ 99 := HK.out
      have IS := fun W hW => set_any w.heap.size rk true rv (Ch.baseTo rs k) W hW hkk
      have hS1 := hS.alloc (.cells #[.int .i64 rk, .int .i64 rv, .bool rg] 50)
      have b1 := hB.alloc hB.size (.cells #[.int .i64 rk, .int .i64 rv, .bool rg] 50)
      go_wp2_with fail
      refine (IS _ hS1).mono ?_
      rintro e w1 ⟨rfl, hS2, g2⟩
      have b2 := b1.grown g2 b1.size (fun j hj => by cases hj; exact Nat.le_refl _)
      clear IS hS1 g2 b1
      go_wp2
      go_roundw
      case rel => exact ⟨k + 1, by omega, by go_num, by rw [HT.out]; exact hS2, b2⟩
      case measure => simp [intOf]; omega
    · obtain rfl : k = n := by omega
      have HWF : Hid (k = rs.length) := HL.out
      rw [HWF.out] at hS
      go_wp2
      go_ret
      exact ⟨rfl, hS, hB⟩

theorem Ch.redo1_no {S : Ch.Sl} {r : Ch.Rec} (h : Ch.sets r.kd = false) : Ch.redo1 S r = S := by unfold Ch.redo1; rw [h]; rfl
theorem Ch.redo1_yes {S : Ch.Sl} {r : Ch.Rec} (h : Ch.sets r.kd = true) : Ch.redo1 S r = S.set r.ky (Ch.optV r.hs r.nw) := by unfold Ch.redo1; rw [h]; rfl

set_option maxRecDepth 20000 in
set_option maxHeartbeats 2000000 in
theorem redo_any (p : Nat) (a : Option Addr) (n cap : Nat) (rs : List Ch.Rec) (S : Ch.Sl) (w : World) (h : CellsAt w a (n * 7) (rc7 rs)) (hn : n ≤ 800) (hf : ∀ k, k < rs.length → (rs.getD k Ch.Rec.zero).fault = 0) (hS : Slt w p S) (hne : 0 < n → ∀ b off, a = some ⟨b, off, none⟩ → b ≠ p) :
    Calls Try.prog 35 #[.pointer (some ⟨p, 0, none⟩), .slice a n cap] w fun e w' => e = .returned (.tuple #[]) ∧ Slt w' p (Ch.redoTo S rs rs.length) ∧ w.grownBy w' (some p) := by
  have HL := h.len7
  have HF := hid hf
  clear hf
  go_enter Try.func35, Try.ntmps35
  go_wp2
  go_loopw [8] (fun i wr => ∃ k : Nat, k ≤ n ∧ i = .int .i64 k ∧ Slt wr p (Ch.redoTo S rs k) ∧ w.grownBy wr (some p)) (fun i _ => n - (intOf i).toNat)
  case atStart => exact ⟨0, Nat.zero_le _, rfl, hS, ⟨rfl, rfl, rfl, Nat.le_refl _, fun _ _ _ => rfl⟩⟩
  case round =>
    clear hS
    obtain ⟨k, hk, rfl, hS, hG⟩ := hrel
    by_cases hlt : k < n
    · have hkl : k < rs.length := by have := HL.out; omega
      have HK := hid (Ch.Rec.fit (HF.out k hkl)).ky
      have HT := hid (Ch.redoTo_step (S := S) (rs := rs) hkl)
      obtain ⟨b, off, rfl, q0, q1, q2, q3, q4, q5, q6⟩ := (cells_grown h hG (fun b off ha e => hne (by omega) b off ha (by simpa using e.symm))).rec hlt
      have hbl := lt_of_cell q0
      have HN := hid (fun hh => Ch.redo1_no (S := Ch.redoTo S rs k) (r := rs.getD k Ch.Rec.zero) hh)
      have HY := hid (fun hh => Ch.redo1_yes (S := Ch.redoTo S rs k) (r := rs.getD k Ch.Rec.zero) hh)
      generalize rs.getD k Ch.Rec.zero = r at *
      obtain ⟨rk, rt, ry, rh, ro, rx, rn⟩ := r
      simp only at q0 q1 q2 q3 q4 q5 q6 HK HN HY
      have hkk : 0 ≤ ry ∧ ry ≤ 99 := HK.out
      have IS := fun W hW => set_any p ry rx rn (Ch.redoTo S rs k) W hW hkk
      have IT := fun W => tells_any rk W
      have hS1 := hS.alloc (.cells #[.int .i64 rk, .int .i64 rt, .int .i64 ry, .bool rh, .int .i64 ro, .bool rx, .int .i64 rn] 54)
      have g1 : w.grownBy (wr.alloc (.cells #[.int .i64 rk, .int .i64 rt, .int .i64 ry, .bool rh, .int .i64 ro, .bool rx, .int .i64 rn] 54)) (some p) := gr_two hG (World.grownBy_alloc wr _ _)
      cases hs : Ch.sets rk
      · rw [hs] at IT
        replace HN := hid (HT.out.trans (HN.out hs))
        clear IS HY HT hs
        go_wp2_with (go_at_call 57; refine (IT _).mono ?_; rintro e w1 ⟨rfl, hw1⟩; obtain rfl := hw1.symm)
        go_roundw
        case rel => exact ⟨k + 1, by omega, by go_num, by rw [HN.out]; exact hS1, g1⟩
        case measure => simp [intOf]; omega
      · rw [hs] at IT
        replace HY := hid (HT.out.trans (HY.out hs))
        clear HN HT hs
        go_wp2_with (first | (go_at_call 57; refine (IT _).mono ?_; rintro e w1 ⟨rfl, hw1⟩; obtain rfl := hw1.symm) | (go_at_call 56; refine (IS _ hS1).mono ?_; rintro e w2 ⟨rfl, hS2, g2⟩))
        go_roundw
        case rel => exact ⟨k + 1, by omega, by go_num, by rw [HY.out]; exact hS2, gr_two g1 g2⟩
        case measure => simp [intOf]; omega
    · obtain rfl : k = n := by omega
      have HWF : Hid (k = rs.length) := HL.out
      rw [HWF.out] at hS
      go_wp2
      exact bodyPost_end (results_none rfl _ _ _) rfl ⟨rfl, hS, hG⟩
end Go.Proofs.Ytoijjjckdggglaa
