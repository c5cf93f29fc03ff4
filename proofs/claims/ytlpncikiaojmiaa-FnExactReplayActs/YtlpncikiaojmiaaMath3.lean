
/- Plain mathematics of chapter 3 (leaves): no Go in it. -/
import Derived.Test.YtlpncikiaojmiaaMath
namespace Go.Proofs.Ytlpncikiaojmiaa.Ch
def firstK (l : List Row) : Int := (l.getD 0 Row.zero).k
def lastK (l : List Row) : Int := (l.getD (l.length - 1) Row.zero).k
def lvFrom : Option Int → List (List Row) → Int
  | _, [] => 0
  | p, l :: ls => if l.length = 0 then 1 else if pageFault l != 0 then pageFault l else if low p (firstK l) then 1 else lvFrom (some (lastK l)) ls
theorem lvFrom_cons (p : Option Int) (l : List Row) (ls : List (List Row)) : lvFrom p (l :: ls) = if l.length = 0 then 1 else if pageFault l != 0 then pageFault l else if low p (firstK l) then 1 else lvFrom (some (lastK l)) ls := by
  cases p <;> rfl
def leavesFault (ls : List (List Row)) : Int := if 60 < ls.length then 2 else lvFrom none ls
def lvPrev (ls : List (List Row)) : Nat → Option Int
  | 0 => none
  | k + 1 => some (lastK (ls.getD k []))
def lvAt (ls : List (List Row)) (k : Nat) : Int := lvFrom (lvPrev ls k) (ls.drop k)
/-- The last key ahead; -1: there is none. -/
def lastAt (ls : List (List Row)) : Nat → Int
  | 0 => -1
  | k + 1 => lastK (ls.getD k [])
theorem lv_drop (ls : List (List Row)) (k : Nat) (h : k < ls.length) : ls.drop k = ls.getD k [] :: ls.drop (k + 1) := by
  rw [List.drop_eq_getElem_cons h]; simp [List.getD, h]
theorem lvAt_end (ls : List (List Row)) (k : Nat) (h : ls.length ≤ k) : lvAt ls k = 0 := by
  unfold lvAt; rw [List.drop_of_length_le h]; cases lvPrev ls k <;> rfl
theorem lvAt_empty (ls : List (List Row)) (k : Nat) (h : k < ls.length) (h0 : (ls.getD k []).length = 0) : lvAt ls k = 1 := by
  unfold lvAt; rw [lv_drop ls k h, lvFrom_cons, if_pos h0]
theorem lvAt_page (ls : List (List Row)) (k : Nat) (h : k < ls.length) (h0 : (ls.getD k []).length ≠ 0) (hp : (pageFault (ls.getD k []) != 0) = true) : lvAt ls k = pageFault (ls.getD k []) := by
  unfold lvAt; rw [lv_drop ls k h, lvFrom_cons, if_neg h0, if_pos hp]
theorem firstK_ok {l : List Row} (hp : pageFault l = 0) : 0 ≤ firstK l := by
  have := (allFit_of_page hp).1 0
  exact this.1
theorem lvAt_low (ls : List (List Row)) (k : Nat) (h : k < ls.length) (h0 : (ls.getD k []).length ≠ 0) (hp : (pageFault (ls.getD k []) != 0) = false) (hl : firstK (ls.getD k []) ≤ lastAt ls k) : lvAt ls k = 1 := by
  have hp' : pageFault (ls.getD k []) = 0 := by simpa using hp
  have := firstK_ok hp'
  unfold lvAt; rw [lv_drop ls k h, lvFrom_cons, if_neg h0, if_neg (by rw [hp]; exact Bool.false_ne_true)]
  cases k with
  | zero => simp only [lastAt] at hl; omega
  | succ k => rw [if_pos (by simpa [lvPrev, low, lastAt] using hl)]
theorem lvAt_on (ls : List (List Row)) (k : Nat) (h : k < ls.length) (h0 : (ls.getD k []).length ≠ 0) (hp : (pageFault (ls.getD k []) != 0) = false) (hl : ¬ firstK (ls.getD k []) ≤ lastAt ls k) : lvAt ls k = lvAt ls (k + 1) := by
  unfold lvAt; rw [lv_drop ls k h, lvFrom_cons, if_neg h0, if_neg (by rw [hp]; exact Bool.false_ne_true)]
  cases k with
  | zero => rw [if_neg (by simp [lvPrev, low])]; rfl
  | succ k => rw [if_neg (by simpa [lvPrev, low, lastAt] using hl)]; rfl
/-- Of leaves without a fault. -/
theorem lvFrom_zero {ls : List (List Row)} {p : Option Int} (h : lvFrom p ls = 0) : ∀ l ∈ ls, l.length ≠ 0 ∧ pageFault l = 0 := by
  induction ls generalizing p with
  | nil => intro l hl; cases hl
  | cons q ls ih =>
    rw [lvFrom_cons] at h
    by_cases h0 : q.length = 0
    · rw [if_pos h0] at h; omega
    · rw [if_neg h0] at h
      by_cases hq : (pageFault q != 0) = true
      · rw [if_pos hq] at h; simp [h] at hq
      · rw [if_neg hq] at h
        by_cases hl : low p (firstK q) = true
        · rw [if_pos hl] at h; omega
        · rw [if_neg hl] at h
          intro l hl
          rcases List.mem_cons.1 hl with rfl | hl
          · exact ⟨h0, by simpa using hq⟩
          · exact ih h l hl
theorem good_leaf {ls : List (List Row)} (h : leavesFault ls = 0) (k : Nat) (hk : k < ls.length) : (ls.getD k []).length ≠ 0 ∧ pageFault (ls.getD k []) = 0 := by
  unfold leavesFault at h
  by_cases h6 : 60 < ls.length
  · rw [if_pos h6] at h; omega
  · rw [if_neg h6] at h
    have := lvFrom_zero h (ls[k]) (List.getElem_mem hk)
    simpa [List.getD, hk] using this
theorem good_len {ls : List (List Row)} (h : leavesFault ls = 0) : ls.length ≤ 60 := by
  unfold leavesFault at h
  by_cases h6 : 60 < ls.length
  · rw [if_pos h6] at h; omega
  · omega
end Go.Proofs.Ytlpncikiaojmiaa.Ch
