
/- What a put tells of all that the law FnLeaves asks; rows compared. -/
import Derived.Test.YtjagobcogkdfhaaLvsM
import Derived.Test.YtjagobcogkdfhaaSameI
import Derived.Test.YtjagobcogkdfhaaFindI
namespace Go.Proofs.Ytjagobcogkdfhaa
open Go.RowKit

theorem Ch.asked_in {ls : List (List Ch.Row)} (hg : Ch.leavesFault ls = 0) {key : Int} (h0 : 0 ≤ key) (h1 : key ≤ 99) : Ch.asked ls key = 0 := by
  unfold Ch.asked
  rw [hg]
  have : Ch.inB key 0 99 = true := by simp [Ch.inB]; omega
  rw [this]; rfl
theorem Ch.fault_key {r : Ch.Row} (h : r.fault = 0) : 0 ≤ r.k ∧ r.k ≤ 99 := by
  unfold Ch.Row.fault Ch.rowFault at h
  cases hb : Ch.inB r.k 0 99
  · rw [hb] at h; simp at h
  · exact inB_key hb
/-- What a row that was put is told: it is found, dropped, the others stay, and it lies in its leaf. -/
theorem Ch.put_tells {ls rl : List (List Ch.Row)} {r : Ch.Row} (h : Ch.putR ls r = (0, rl)) :
    Ch.leavesFault ls = 0 ∧ Ch.leavesFault rl = 0 ∧ Ch.findRR rl r.k = (0, [r]) ∧ (∃ dl, Ch.dropR rl r.k = (0, dl) ∧ Ch.leavesFault dl = 0 ∧ Ch.findRR dl r.k = (4, [])) ∧
    (∀ k : Int, 0 ≤ k → k ≤ 99 → k ≠ r.k → (Ch.findRR ls k).2 = (Ch.findRR rl k).2) ∧
    (∃ i j : Nat, i < rl.length ∧ Ch.leafFor rl r.k = (0, (i : Int)) ∧ j < (rl.getD i []).length ∧ (rl.getD i []).getD j Ch.Row.zero = r) := by
  have hl : Ch.leavesFault ls = 0 := by
    unfold Ch.putR at h
    by_cases hc : (Ch.leavesFault ls != 0) = true
    · rw [if_pos hc] at h
      simp at hc
      exact absurd (Prod.mk.inj h).1 hc
    · simpa using hc
  have hr : r.fault = 0 := by
    unfold Ch.putR at h
    rw [hl] at h
    by_cases hc : (r.fault != 0) = true
    · rw [if_neg (by simp), if_pos hc] at h
      simp at hc
      exact absurd (Prod.mk.inj h).1 hc
    · simpa using hc
  have hp : (Ch.put ls r).length ≤ 60 ∧ rl = Ch.put ls r := by
    unfold Ch.putR at h
    rw [hl, hr] at h
    by_cases hc : 60 < (Ch.put ls r).length
    · rw [if_neg (by simp), if_neg (by simp), if_pos hc] at h
      exact absurd (Prod.mk.inj h).1 (by omega)
    · rw [if_neg (by simp), if_neg (by simp), if_neg hc] at h
      exact ⟨by omega, (Prod.mk.inj h).2.symm⟩
  obtain ⟨h60, rfl⟩ := hp
  have hg := Ch.put_good hl hr h60
  obtain ⟨k0, k1⟩ := Ch.fault_key hr
  have ha := Ch.asked_in hg k0 k1
  have hf := Ch.put_find (r := r) hl
  have hd := Ch.drop_good hg r.k
  have hda := Ch.asked_in hd k0 k1
  obtain ⟨i, j, hi, hj, hrow, _⟩ := Ch.find_some hf
  refine ⟨hl, hg, Ch.findRR_some (by rw [ha]; rfl) hf, ⟨_, Ch.dropR_some (by rw [ha]; rfl) hf, hd, Ch.findRR_none (by rw [hda]; rfl) (Ch.drop_find _ _)⟩, fun k h0 h1 hne => ?_, i, j, hi, ?_, hj, hrow⟩
  · have e1 := Ch.asked_in hl h0 h1
    have e2 := Ch.asked_in hg h0 h1
    have e3 := Ch.put_find_other (r := r) hl hne
    cases hq : Ch.findR ls k with
    | none => rw [Ch.findRR_none (by rw [e1]; rfl) hq, Ch.findRR_none (by rw [e2]; rfl) (e3.trans hq)]
    | some x => rw [Ch.findRR_some (by rw [e1]; rfl) hq, Ch.findRR_some (by rw [e2]; rfl) (e3.trans hq)]
  · rw [leafFor_ok (by rw [ha]; rfl) (by omega), Ch.forAt_found hg hi hj (by unfold Ch.keyAt; rw [hrow])]

set_option maxHeartbeats 800000 in
theorem lwRows_any (a a' : Option Addr) (n cap n' cap' : Nat) (rs qs : List Ch.Row) (w : World) (h : CellsAt w a (n * 3) (rcells rs)) (h' : CellsAt w a' (n' * 3) (rcells qs)) (hn : n ≤ 1048576) (hn' : n' ≤ 1048576) :
    Calls Try.prog 22 #[.slice a n cap, .slice a' n' cap'] w fun e w' => e = .returned (.bool (Ch.sameL rs qs)) ∧ Below w.heap.size w w' := by
  have HL := h.rlen
  have HL' := h'.rlen
  by_cases hnn : n = n'
  · subst hnn
    have hne : ((n : Int) != n) = false := by simp
    go_enter Try.func22, Try.ntmps22
    go_wp2
    go_loopw [5] (fun i wr => ∃ k : Nat, k ≤ n ∧ i = .int .i64 k ∧ Hid (Ch.sameL rs qs = Ch.sameL (rs.drop k) (qs.drop k)) ∧ Below w.heap.size w wr) (fun i _ => n - (intOf i).toNat)
    case atStart => exact ⟨0, Nat.zero_le _, rfl, rfl, Below.refl _ _⟩
    case round =>
      obtain ⟨k, hk, rfl, HS, hB⟩ := hrel
      by_cases hlt : k < n
      · have HA := hid (Ch.sameL_at rs qs k (by have := HL.out; omega) (by have := HL'.out; omega))
        obtain ⟨b, off, rfl, hc0, hc1, hc2⟩ := (h.below hB).row hlt
        obtain ⟨b', off', rfl, hd0, hd1, hd2⟩ := (h'.below hB).row hlt
        generalize rs.getD k Ch.Row.zero = r at *
        generalize qs.getD k Ch.Row.zero = q at *
        obtain ⟨rk, rv, rg⟩ := r
        obtain ⟨qk, qv, qg⟩ := q
        simp only at hc0 hc1 hc2 hd0 hd1 hd2
        have hneq := fun W => neqRow rk rv rg qk qv qg W
        have HE : Hid (Ch.Row.same ⟨rk, rv, rg⟩ ⟨qk, qv, qg⟩ = (rk == qk && (rv == qv && rg == qg))) := rfl
        generalize (rk == qk && (rv == qv && rg == qg)) = same at *
        cases same
        · simp only [Bool.not_false] at hneq
          go_wp2
          go_quiet (fail)
          go_wp2
          go_ret
          exact ⟨by rw [HS.out, HA.out, HE.out]; rfl, bel_drewN hB _⟩
        · simp only [Bool.not_true] at hneq
          go_wp2
          go_quiet (fail)
          go_wp2
          go_roundw
          case rel => exact ⟨k + 1, by omega, by go_num, (by show _ = _; rw [HS.out, HA.out, HE.out]; rfl), bel_drewN hB _⟩
          case measure => simp [intOf]; omega
      · obtain rfl : k = n := by omega
        go_wp2
        go_ret
        refine ⟨?_, hB⟩
        rw [HS.out, List.drop_of_length_le (by have := HL.out; omega), List.drop_of_length_le (by have := HL'.out; omega)]
        rfl
  · have hne : ((n : Int) != (n' : Int)) = true := by simp; omega
    have hne2 : ¬ (n : Int) = (n' : Int) := by omega
    go_enter Try.func22, Try.ntmps22
    go_wp2
    go_ret
    exact ⟨by rw [Ch.sameL_len _ _ (by have := HL.out; have := HL'.out; omega)]; rfl, Below.refl _ _⟩
end Go.Proofs.Ytjagobcogkdfhaa
