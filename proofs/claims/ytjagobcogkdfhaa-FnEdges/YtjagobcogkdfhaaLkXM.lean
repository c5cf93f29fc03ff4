
/- Plain: which mode a transaction holds, where it waits, what is asked first. -/
import Derived.Test.YtjagobcogkdfhaaLkM
namespace Go.Proofs.Ytjagobcogkdfhaa.Ch
theorem find_at {ls : List Lock} {p : Lock → Bool} {k : Nat} (hk : k < ls.length) (h0 : ∀ j, j < k → p (lkAt ls j) = false) (h1 : p (lkAt ls k) = true) : ls.find? p = some (lkAt ls k) := by
  rw [List.find?_eq_some_iff_getElem]
  refine ⟨h1, k, hk, by simp [lkAt, List.getD, hk], fun j hj => ?_⟩
  have := h0 j hj
  simpa [lkAt, List.getD, show j < ls.length by omega] using this
theorem find_no {ls : List Lock} {p : Lock → Bool} (h0 : ∀ j, j < ls.length → p (lkAt ls j) = false) : ls.find? p = none := by
  rw [List.find?_eq_none]
  intro x hx
  obtain ⟨i, hi, rfl⟩ := List.getElem_of_mem hx
  have := h0 i hi
  simpa [lkAt, List.getD, hi] using this
theorem find_is {ls : List Lock} {p : Lock → Bool} {l : Lock} (h : ls.find? p = some l) : ∃ k, k < ls.length ∧ lkAt ls k = l ∧ p l = true ∧ ∀ j, j < k → p (lkAt ls j) = false := by
  rw [List.find?_eq_some_iff_getElem] at h
  obtain ⟨h1, k, hk, he, h0⟩ := h
  refine ⟨k, hk, by simpa [lkAt, List.getD, hk] using he, h1, fun j hj => ?_⟩
  have := h0 j hj
  simpa [lkAt, List.getD, show j < ls.length by omega] using this
/-- The resources rise. -/
theorem res_rise {ls : List Lock} (h : locksFault ls = 0) {i j : Nat} (hij : i < j) (hj : j < ls.length) : (lkAt ls i).r < (lkAt ls j).r := by
  have hg := (locks_good h).1
  induction j with
  | zero => omega
  | succ j ih =>
    have h1 := (one_good (hg (j + 1) hj)).2.2.1 (by omega)
    rw [show j + 1 - 1 = j from rfl] at h1
    by_cases e : i = j
    · subst e; exact h1
    · have := ih (by omega) (by omega); omega
theorem res_same {ls : List Lock} (h : locksFault ls = 0) {i j : Nat} (hi : i < ls.length) (hj : j < ls.length) (e : (lkAt ls i).r = (lkAt ls j).r) : i = j := by
  rcases Nat.lt_trichotomy i j with h1 | h1 | h1
  · have := res_rise h h1 hj; omega
  · exact h1
  · have := res_rise h h1 hi; omega
/-- The mode that a transaction holds a resource in. -/
def modeL (ls : List Lock) (t res : Int) : Int := match ls.find? (fun l => l.r == res) with
  | some l => modeH l.hs t
  | none => 0
theorem modeL_at {ls : List Lock} (h : locksFault ls = 0) {t res : Int} {k : Nat} (hk : k < ls.length) (he : (lkAt ls k).r = res) : modeL ls t res = modeH (lkAt ls k).hs t := by
  unfold modeL
  rw [find_at hk (fun j hj => ?_) (by simpa using he)]
  have := res_rise h hj hk
  simp; omega
theorem modeL_no {ls : List Lock} {t res : Int} (h0 : ∀ j, j < ls.length → (lkAt ls j).r = res → hasH (lkAt ls j).hs t = false) : modeL ls t res = 0 := by
  unfold modeL
  split
  · next l hl =>
    obtain ⟨k, hk, rfl, hp, _⟩ := find_is hl
    have := h0 k hk (by simpa using hp)
    unfold modeH
    rw [this]; rfl
  · rfl
/-- Where a transaction waits; -1: it does not. -/
def waitsL (ls : List Lock) (t : Int) : Int := match ls.find? (fun l => hasH l.qs t) with
  | some l => l.r
  | none => -1
def waitsB (ls : List Lock) (t : Int) : Bool := (ls.find? (fun l => hasH l.qs t)).isSome
def waitsV (ls : List Lock) (t : Int) : Int := if waitsB ls t then waitsL ls t else 0
theorem waits_at {ls : List Lock} {t : Int} {k : Nat} (hk : k < ls.length) (h0 : ∀ j, j < k → hasH (lkAt ls j).qs t = false) (h1 : hasH (lkAt ls k).qs t = true) : waitsL ls t = (lkAt ls k).r ∧ waitsB ls t = true ∧ waitsV ls t = (lkAt ls k).r := by
  have hf := find_at (p := fun l => hasH l.qs t) hk h0 h1
  have hb : waitsB ls t = true := by unfold waitsB; rw [hf]; rfl
  have hl : waitsL ls t = (lkAt ls k).r := by unfold waitsL; rw [hf]
  exact ⟨hl, hb, by unfold waitsV; rw [hb, hl]; rfl⟩
theorem waits_no {ls : List Lock} {t : Int} (h0 : ∀ j, j < ls.length → hasH (lkAt ls j).qs t = false) : waitsL ls t = -1 ∧ waitsB ls t = false ∧ waitsV ls t = 0 := by
  have hf := find_no (p := fun l => hasH l.qs t) h0
  have hb : waitsB ls t = false := by unfold waitsB; rw [hf]; rfl
  have hl : waitsL ls t = -1 := by unfold waitsL; rw [hf]
  exact ⟨hl, hb, by unfold waitsV; rw [hb]; rfl⟩
theorem waits_is (ls : List Lock) (t : Int) : (waitsB ls t = false ∧ waitsL ls t = -1 ∧ waitsV ls t = 0 ∧ ∀ j, j < ls.length → hasH (lkAt ls j).qs t = false) ∨ (waitsB ls t = true ∧ ∃ k, k < ls.length ∧ waitsL ls t = (lkAt ls k).r ∧ waitsV ls t = (lkAt ls k).r ∧ hasH (lkAt ls k).qs t = true ∧ ∀ j, j < k → hasH (lkAt ls j).qs t = false) := by
  cases hf : ls.find? (fun l => hasH l.qs t) with
  | none =>
    left
    rw [List.find?_eq_none] at hf
    have h0 : ∀ j, j < ls.length → hasH (lkAt ls j).qs t = false := by
      intro j hj
      have := hf (lkAt ls j) (by simp [lkAt, List.getD, hj])
      simpa using this
    have := waits_no h0
    exact ⟨this.2.1, this.1, this.2.2, h0⟩
  | some l =>
    right
    obtain ⟨k, hk, rfl, h1, h0⟩ := find_is hf
    have := waits_at hk h0 h1
    exact ⟨this.2.1, k, hk, this.1, this.2.2, h1, h0⟩
/-- What is asked first. -/
def askedT (ls : List Lock) (t : Int) : Int := if locksFault ls != 0 then locksFault ls else if inB t 1 999 then 0 else 3
def askedR (ls : List Lock) (t res : Int) : Int := if locksFault ls != 0 then locksFault ls else if inB t 1 999 && inB res 0 100 then 0 else 3
theorem askedT_bad {ls : List Lock} {t : Int} (h : (locksFault ls != 0) = true) : askedT ls t = locksFault ls := by unfold askedT; rw [if_pos h]
theorem askedT_ok {ls : List Lock} {t : Int} (h : (locksFault ls != 0) = false) : askedT ls t = if inB t 1 999 then 0 else 3 := by unfold askedT; rw [h]; rfl
theorem askedR_bad {ls : List Lock} {t res : Int} (h : (locksFault ls != 0) = true) : askedR ls t res = locksFault ls := by unfold askedR; rw [if_pos h]
theorem askedR_ok {ls : List Lock} {t res : Int} (h : (locksFault ls != 0) = false) : askedR ls t res = if inB t 1 999 && inB res 0 100 then 0 else 3 := by unfold askedR; rw [h]; rfl
theorem askedR_T (ls : List Lock) (t res : Int) : askedR ls t res = if askedT ls t != 0 then askedT ls t else if inB res 0 100 then 0 else 3 := by
  cases h : (locksFault ls != 0)
  · rw [askedR_ok h, askedT_ok h]
    cases inB t 1 999 <;> cases inB res 0 100 <;> rfl
  · rw [askedR_bad h, askedT_bad h, if_pos h]
theorem askedR_zero (ls : List Lock) (t : Int) : askedR ls t 0 = askedT ls t := by
  cases h : (locksFault ls != 0)
  · rw [askedR_ok h, askedT_ok h]
    cases inB t 1 999 <;> rfl
  · rw [askedR_bad h, askedT_bad h]
theorem askedT_good {ls : List Lock} {t : Int} (h : askedT ls t = 0) : locksFault ls = 0 ∧ 1 ≤ t ∧ t ≤ 999 := by
  cases h1 : (locksFault ls != 0)
  · rw [askedT_ok h1] at h
    cases h2 : inB t 1 999
    · rw [h2] at h; cases h
    · unfold inB at h2
      simp at h1 h2
      exact ⟨h1, h2.1, h2.2⟩
  · rw [askedT_bad h1] at h
    rw [h] at h1; cases h1
/-- What ModeOf and WaitsAt answer. -/
def modeR (ls : List Lock) (t res : Int) : Int × Int := if askedR ls t res != 0 then (askedR ls t res, 0) else (0, modeL ls t res)
def waitsR (ls : List Lock) (t : Int) : Int × Int := if askedT ls t != 0 then (askedT ls t, 0) else if waitsB ls t then (0, waitsL ls t) else (4, 0)
theorem modeR_bad {ls : List Lock} {t res c : Int} (h : askedR ls t res = c) (h0 : c ≠ 0) : modeR ls t res = (c, 0) := by
  unfold modeR; rw [h, if_pos (by simpa using h0)]
theorem modeR_ok {ls : List Lock} {t res : Int} (h : askedR ls t res = 0) : modeR ls t res = (0, modeL ls t res) := by
  unfold modeR; rw [h]; rfl
theorem waitsR_bad {ls : List Lock} {t c : Int} (h : askedT ls t = c) (h0 : c ≠ 0) : waitsR ls t = (c, 0) := by
  unfold waitsR; rw [h, if_pos (by simpa using h0)]
theorem waitsR_yes {ls : List Lock} {t : Int} (h : askedT ls t = 0) (hb : waitsB ls t = true) : waitsR ls t = (0, waitsL ls t) := by
  unfold waitsR; rw [h, hb]; rfl
theorem waitsR_no {ls : List Lock} {t : Int} (h : askedT ls t = 0) (hb : waitsB ls t = false) : waitsR ls t = (4, 0) := by
  unfold waitsR; rw [h, hb]; rfl
end Go.Proofs.Ytjagobcogkdfhaa.Ch
