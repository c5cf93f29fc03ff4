/- What is wrong with acts: of the program and of the model. -/
import Derived.Test.YtlpncikiaojmiaaAcB
import Derived.Test.YtlpncikiaojmiaaOpF
import Derived.Test.YtlpncikiaojmiaaOpW
import Derived.Test.YtlpncikiaojmiaaRecW
namespace Go.Proofs.Ytlpncikiaojmiaa
open Go.RowKit

set_option maxHeartbeats 1000000 in
theorem implActs_any (a : Option Addr) (n cap : Nat) (rs : List Ch.Ac) (w : World) (h : AcAt w a n rs) (hn : n ≤ 1048576) :
    Calls Try.prog 50 #[.slice a n cap] w fun e w' => e = .returned (.int .i64 (Ch.acsF rs)) ∧ Below w.heap.size w w' := by
  have HL := h.len
  by_cases h8 : 220 < n
  · have HF : Hid (Ch.acsF rs = 2) := Ch.acsF_many (by have := HL.out; omega)
    rw [HF.out]
    go_enter Try.func50, Try.ntmps50
    go_wp2
    go_ret
    exact ⟨rfl, Below.refl _ _⟩
  · have HF : Hid (Ch.acsF rs = Ch.acsAt rs rs.length) := Ch.acsF_few (by have := HL.out; omega)
    have h8' : n ≤ 220 := by omega
    rw [HF.out]
    clear h8
    obtain ⟨c, HC⟩ : ∃ c, Hid (Ch.acsAt rs rs.length = c) := ⟨_, rfl⟩
    rw [HC.out]
    go_enter Try.func50, Try.ntmps50
    go_wp2
    go_loopw [11] (fun i wr => ∃ k : Nat, k ≤ n ∧ i = .int .i64 k ∧ Hid (Ch.acsAt rs k = 0) ∧ Below w.heap.size w wr) (fun i _ => n - (intOf i).toNat)
    case atStart => exact ⟨0, Nat.zero_le _, rfl, rfl, Below.refl _ _⟩
    case round =>
      obtain ⟨k, hk, rfl, H0, hB⟩ := hrel
      by_cases hlt : k < n
      · have HS := hid (Ch.acsAt_step (by have := HL.out; omega : k < rs.length) H0.out)
        obtain ⟨b, off, ai, ni, ci, rfl, hc0, hc1, hc2, hc3, hc4, hc5, _, _⟩ := (h.below hB).act hlt
        generalize Ch.acAt rs k = r at *
        obtain ⟨tx, kd, p, q, v, an⟩ := r
        simp only at hc0 hc1 hc2 hc3 hc4
        have IR := fun W => implOp_any kd p q v W
        have HV : Hid ((Ch.Ac.mk tx kd p q v an).fault = if Ch.inB tx 1 999 = false then 3 else Ch.opFault kd p q v) := rfl
        by_cases ht : Ch.inB tx 1 999 = true
        · have HV' : Hid ((Ch.Ac.mk tx kd p q v an).fault = Ch.opFault kd p q v) := by show _ = _; rw [HV.out, ht]; rfl
          generalize Ch.opFault kd p q v = z at *
          go_wp2_with (go_at_call 60; refine (isTxn_any _ _).mono ?_; rintro e w' ⟨rfl, rfl⟩)
          refine (IR _).mono ?_
          rintro e w1 ⟨rfl, b1⟩
          have b1' : Below w.heap.size w w1 := hB.trans ((below_box b1).mono hB.size)
          clear IR
          by_cases h0 : z = 0
          · subst h0
            go_wp2
            go_roundw
            case rel => exact ⟨k + 1, by omega, by go_num, HS.out.trans HV'.out, b1'⟩
            case measure => simp [intOf]; omega
          · have hq : (z != 0) = true := by simpa using h0
            have HQ := hid ((Ch.acsAt_stays (HS.out.trans HV'.out) hq).symm.trans HC.out)
            clear h0
            go_wp2
            go_ret
            exact ⟨ret_int HQ.out, b1'⟩
        · have ht' : Ch.inB tx 1 999 = false := by simpa using ht
          have HV' : Hid ((Ch.Ac.mk tx kd p q v an).fault = 3) := by show _ = _; rw [HV.out, ht']; rfl
          have HQ := hid ((Ch.acsAt_stays (HS.out.trans HV'.out) (by decide)).symm.trans HC.out)
          clear ht
          go_wp2_with (go_at_call 60; refine (isTxn_any _ _).mono ?_; rintro e w' ⟨rfl, rfl⟩)
          go_ret
          exact ⟨ret_int HQ.out, hB.alloc hB.size _⟩
      · obtain rfl : k = n := by omega
        have HQ : Hid (0 = c) := by have h1 := H0.out; rw [HL.out] at h1; exact h1.symm.trans HC.out
        go_wp2
        go_ret
        exact ⟨ret_int HQ.out, hB⟩

set_option maxHeartbeats 1000000 in
theorem specActs_any (a : Option Addr) (n cap : Nat) (rs : List Ch.Ac) (w : World) (h : AcAt w a n rs) (hn : n ≤ 1048576) :
    Calls Try.prog 34 #[.slice a n cap] w fun e w' => e = .returned (.int .i64 (Ch.acsF rs)) ∧ Below w.heap.size w w' := by
  have HL := h.len
  by_cases h8 : 220 < n
  · have HF : Hid (Ch.acsF rs = 2) := Ch.acsF_many (by have := HL.out; omega)
    rw [HF.out]
    go_enter Try.func34, Try.ntmps34
    go_wp2
    go_ret
    exact ⟨rfl, Below.refl _ _⟩
  · have HF : Hid (Ch.acsF rs = Ch.acsAt rs rs.length) := Ch.acsF_few (by have := HL.out; omega)
    have h8' : n ≤ 220 := by omega
    rw [HF.out]
    clear h8
    obtain ⟨c, HC⟩ : ∃ c, Hid (Ch.acsAt rs rs.length = c) := ⟨_, rfl⟩
    rw [HC.out]
    go_enter Try.func34, Try.ntmps34
    go_wp2
    go_loopw [3] (fun i wr => ∃ k : Nat, k ≤ n ∧ i = .int .i64 k ∧ Hid (Ch.acsAt rs k = 0) ∧ Below w.heap.size w wr) (fun i _ => n - (intOf i).toNat)
    case atStart => exact ⟨0, Nat.zero_le _, rfl, rfl, Below.refl _ _⟩
    case round =>
      obtain ⟨k, hk, rfl, H0, hB⟩ := hrel
      by_cases hlt : k < n
      · have HS := hid (Ch.acsAt_step (by have := HL.out; omega : k < rs.length) H0.out)
        obtain ⟨b, off, ai, ni, ci, rfl, hc0, hc1, hc2, hc3, hc4, hc5, _, _⟩ := (h.below hB).act hlt
        generalize Ch.acAt rs k = r at *
        obtain ⟨tx, kd, p, q, v, an⟩ := r
        simp only at hc0 hc1 hc2 hc3 hc4
        have IR := fun W => specOp_any kd p q v W
        have HV : Hid ((Ch.Ac.mk tx kd p q v an).fault = if Ch.inB tx 1 999 = false then 3 else Ch.opFault kd p q v) := rfl
        by_cases ht : Ch.inB tx 1 999 = true
        · have HV' : Hid ((Ch.Ac.mk tx kd p q v an).fault = Ch.opFault kd p q v) := by show _ = _; rw [HV.out, ht]; rfl
          generalize Ch.opFault kd p q v = z at *
          go_wp2_with (go_at_call 58; refine (l2Txn_any _ _).mono ?_; rintro e w' ⟨rfl, rfl⟩)
          refine (IR _).mono ?_
          rintro e w1 ⟨rfl, b1⟩
          have b1' : Below w.heap.size w w1 := hB.trans (b1.mono hB.size)
          clear IR
          by_cases h0 : z = 0
          · subst h0
            go_wp2
            go_roundw
            case rel => exact ⟨k + 1, by omega, by go_num, HS.out.trans HV'.out, b1'⟩
            case measure => simp [intOf]; omega
          · have hq : (z != 0) = true := by simpa using h0
            have HQ := hid ((Ch.acsAt_stays (HS.out.trans HV'.out) hq).symm.trans HC.out)
            clear h0
            go_wp2
            go_ret
            exact ⟨ret_int HQ.out, b1'⟩
        · have ht' : Ch.inB tx 1 999 = false := by simpa using ht
          have HV' : Hid ((Ch.Ac.mk tx kd p q v an).fault = 3) := by show _ = _; rw [HV.out, ht']; rfl
          have HQ := hid ((Ch.acsAt_stays (HS.out.trans HV'.out) (by decide)).symm.trans HC.out)
          clear ht
          go_wp2_with (go_at_call 58; refine (l2Txn_any _ _).mono ?_; rintro e w' ⟨rfl, rfl⟩)
          go_ret
          exact ⟨ret_int HQ.out, hB⟩
      · obtain rfl : k = n := by omega
        have HQ : Hid (0 = c) := by have h1 := H0.out; rw [HL.out] at h1; exact h1.symm.trans HC.out
        go_wp2
        go_ret
        exact ⟨ret_int HQ.out, hB⟩

end Go.Proofs.Ytlpncikiaojmiaa
