/- Plain facts of the law FnLogs. -/
import Derived.Test.YtommekhmdmnjlaaRecsM
namespace Go.Proofs.Ytommekhmdmnjlaa.Ch

theorem take_used : ∀ (n : Nat) (zs : List Int), zs.length ≤ n → zs.take (used zs) = packs (reads zs) ∧ ∀ r ∈ reads zs, r.fault = 0 := by
  intro n
  induction n with
  | zero =>
    intro zs h
    have : zs = [] := List.length_eq_zero_iff.1 (by omega)
    subst this
    exact ⟨rfl, fun r hr => by have e : reads [] = [] := rfl; rw [e] at hr; cases hr⟩
  | succ n ih =>
    intro zs h
    cases hf : first zs with
    | none =>
      rw [reads_none hf, used_none hf]
      exact ⟨rfl, fun r hr => by cases hr⟩
    | some r =>
      obtain ⟨h0, ⟨t, ht⟩, _⟩ := first_some hf
      obtain ⟨l0, l1⟩ := first_len hf
      obtain ⟨i1, i2⟩ := ih (zs.drop r.len) (by simp; omega)
      rw [reads_some hf, used_some hf]
      refine ⟨?_, fun q hq => ?_⟩
      · rw [List.take_add, i1]
        have e : zs.take r.len = r.bytes := by
          rw [← ht, ← r.bytes_len, List.take_left]
        rw [e]
        simp [packs]
      · rcases List.mem_cons.1 hq with rfl | hq
        · exact h0
        · exact i2 q hq

theorem used_of_reads {zs : List Int} {rs : List Rec} (h : reads zs = rs) : used zs = lenOf rs := by unfold used; rw [h]

/-- What is left of a log behind a crash. -/
theorem crash_facts {ss ls : List Int} (h0 : walFault ss ls = 0) (k : Nat) :
    let zs := ss ++ ls.take k
    let z1 := zs.take (used zs)
    z1.length = used zs ∧ walFault z1 [] = 0 ∧ ss.length ≤ used zs ∧ used zs ≤ ss.length + ls.length ∧ used zs ≤ 4000 ∧ (ss ++ ls).take (used zs) = z1 ∧ (reads (ss ++ ls)).length = (reads ss).length + (reads ls).length := by
  intro zs z1
  have hsum : ¬ 4000 < ss.length + ls.length := by
    intro hb; unfold walFault at h0; rw [if_pos hb] at h0; omega
  have hu : used ss = ss.length ∧ used ls = ls.length := by
    unfold walFault at h0
    rw [if_neg hsum] at h0
    by_cases hx : used ss ≠ ss.length ∨ used ls ≠ ls.length
    · rw [if_pos hx] at h0; omega
    · omega
  have hzl : zs.length ≤ ss.length + ls.length := by show (ss ++ ls.take k).length ≤ _; simp; omega
  have hle := used_le zs
  have hr : reads zs = reads ss ++ reads (ls.take k) := reads_append _ ss (ls.take k) (Nat.le_refl _) hu.1
  have huz : used zs = used ss + used (ls.take k) := by unfold used; rw [hr, lenOf_append]
  obtain ⟨t1, t2⟩ := take_used zs.length zs (Nat.le_refl _)
  have hz1 : z1.length = used zs := by show (zs.take (used zs)).length = _; simp; omega
  have hz1u : used z1 = z1.length := by
    show used (zs.take (used zs)) = (zs.take (used zs)).length
    rw [t1]
    exact used_packs t2
  refine ⟨hz1, ?_, by omega, by omega, by omega, ?_, ?_⟩
  · unfold walFault
    have hnil : used [] = 0 := rfl
    rw [if_neg (by simp; omega), if_neg (by simp [hz1u, hnil])]
  · have e : zs = (ss ++ ls).take (ss.length + k) := by
      show ss ++ ls.take k = _
      exact (List.take_length_add_append k).symm
    have hk : used zs ≤ ss.length + k := by
      have : zs.length ≤ ss.length + k := by show (ss ++ ls.take k).length ≤ _; simp; omega
      omega
    show (ss ++ ls).take (used zs) = zs.take (used zs)
    conv => rhs; arg 2; rw [e]
    rw [List.take_take, Nat.min_eq_left hk]
  · rw [reads_append _ ss ls (Nat.le_refl _) hu.1, List.length_append]

theorem end_counts {ss ls : List Int} (h0 : walFault ss ls = 0) : ((reads ss).length : Int) + ((reads (ls ++ Rec.bytes ⟨5, 3, 0, false, 0, false, 0⟩)).length : Int) = ((reads (ss ++ ls)).length : Int) + 1 := by
  have hsum : ¬ 4000 < ss.length + ls.length := by
    intro hb; unfold walFault at h0; rw [if_pos hb] at h0; omega
  have hu : used ss = ss.length ∧ used ls = ls.length := by
    unfold walFault at h0
    rw [if_neg hsum] at h0
    by_cases hx : used ss ≠ ss.length ∨ used ls ≠ ls.length
    · rw [if_pos hx] at h0; omega
    · omega
  have e1 := reads_append _ ls (Rec.bytes ⟨5, 3, 0, false, 0, false, 0⟩) (Nat.le_refl _) hu.2
  have e2 := reads_bytes (r := ⟨5, 3, 0, false, 0, false, 0⟩) rfl []
  rw [List.append_nil] at e2
  have e3 : reads [] = [] := rfl
  rw [e1, e2, e3, reads_append _ ss ls (Nat.le_refl _) hu.1]
  simp
  omega
end Go.Proofs.Ytommekhmdmnjlaa.Ch
