
/- A row put into leaves, step by step: plain. -/
import Derived.Test.YtlpncikiaojmiaaPutM
import Derived.Test.YtlpncikiaojmiaaLvW
namespace Go.Proofs.Ytlpncikiaojmiaa.Ch
theorem into_pos (r : Row) (l : List Row) : 1 ≤ (into r l).length := by
  cases l with
  | nil => simp [into]
  | cons x l => simp only [into]; split <;> simp
theorem into_len (r : Row) (l : List Row) : (into r l).length ≤ l.length + 1 := by
  induction l with
  | nil => simp [into]
  | cons x l ih =>
    simp only [into]
    split
    · simp; omega
    · have := List.length_filter_le (notK r.k) (x :: l)
      simp at this ⊢
      omega
/-- The first k leaves with the row put into the leaf at p. -/
def putAcc (ls : List (List Row)) (r : Row) (p : Nat) : Nat → List (List Row)
  | 0 => []
  | k + 1 => putAcc ls r p k ++ (if k = p then halves (into r (ls.getD k [])) else [ls.getD k []])
theorem putAcc_yes (ls : List (List Row)) (r : Row) (p : Nat) : putAcc ls r p (p + 1) = putAcc ls r p p ++ halves (into r (ls.getD p [])) := by rw [putAcc, if_pos rfl]
theorem putAcc_no (ls : List (List Row)) (r : Row) {p k : Nat} (h : k ≠ p) : putAcc ls r p (k + 1) = putAcc ls r p k ++ [ls.getD k []] := by rw [putAcc, if_neg h]
theorem putAcc_low (ls : List (List Row)) (r : Row) {p : Nat} : ∀ k, k ≤ p → k ≤ ls.length → putAcc ls r p k = ls.take k := by
  intro k
  induction k with
  | zero => intro _ _; simp [putAcc]
  | succ k ih =>
    intro h1 h2
    rw [putAcc_no ls r (by omega), ih (by omega) (by omega), List.take_add_one, List.getD]
    simp [show k < ls.length by omega]
theorem putAcc_high (ls : List (List Row)) (r : Row) {p : Nat} (hp : p < ls.length) : ∀ k, p + 1 ≤ k → k ≤ ls.length → putAcc ls r p k = ls.take p ++ halves (into r (ls.getD p [])) ++ (ls.drop (p + 1)).take (k - (p + 1)) := by
  intro k
  induction k with
  | zero => intro h; omega
  | succ k ih =>
    intro h1 h2
    by_cases h : k = p
    · subst h
      rw [putAcc_yes, putAcc_low ls r k (Nat.le_refl _) (by omega)]
      simp
    · rw [putAcc_no ls r h, ih (by omega) (by omega), show k + 1 - (p + 1) = (k - (p + 1)) + 1 by omega, List.take_add_one, List.append_assoc, List.append_assoc, List.append_assoc]
      congr 2
      rw [List.getElem?_drop, show p + 1 + (k - (p + 1)) = k by omega, List.getD]
      simp [show k < ls.length by omega]
theorem forAt_lt {ls : List (List Row)} {key : Int} {k : Nat} (h : 0 < k) : forAt ls key k < k := by
  cases k with
  | zero => omega
  | succ k => simp only [forAt]; split <;> have := forAt_le ls key k <;> omega
theorem putAcc_all {ls : List (List Row)} {r : Row} {p : Nat} (h0 : ls.length ≠ 0) (hp : forAt ls r.k ls.length = p) : putAcc ls r p ls.length = put ls r := by
  have := forAt_lt (ls := ls) (key := r.k) (k := ls.length) (by omega)
  rw [putAcc_high ls r (by omega) _ (by omega) (Nat.le_refl _), put, if_neg h0, hp, List.take_of_length_le (l := ls.drop (p + 1)) (by rw [List.length_drop]; omega)]
theorem halves_mem {l x : List Row} (h : x ∈ halves l) (h0 : 1 ≤ l.length) (h5 : l.length ≤ 5) : 1 ≤ x.length ∧ x.length ≤ 5 := by
  unfold halves at h
  split at h
  · simp only [List.mem_singleton] at h; subst h; omega
  · simp only [List.mem_cons, List.not_mem_nil, or_false] at h
    rcases h with rfl | rfl <;> simp <;> omega
theorem put_mem {ls : List (List Row)} {r : Row} (hg : leavesFault ls = 0) {x : List Row} (h : x ∈ put ls r) : 1 ≤ x.length ∧ x.length ≤ 5 := by
  have old : ∀ y ∈ ls, 1 ≤ y.length ∧ y.length ≤ 4 := by
    intro y hy
    obtain ⟨i, hi, rfl⟩ := List.getElem_of_mem hy
    have h1 := good_leaf hg i hi
    rw [getD_get ls [] i hi] at h1
    have := (allFit_of_page h1.2).2
    omega
  unfold put at h
  split at h
  · simp only [List.mem_singleton] at h; subst h; simp
  · have hp := forAt_lt (ls := ls) (key := r.k) (k := ls.length) (by omega)
    rcases List.mem_append.1 h with h | h
    · rcases List.mem_append.1 h with h | h
      · have := old x (List.mem_of_mem_take h); omega
      · refine halves_mem h (into_pos _ _) ?_
        have h1 := into_len r (ls.getD (forAt ls r.k ls.length) [])
        have h2 := old (ls.getD (forAt ls r.k ls.length) []) (by rw [getD_get ls [] _ hp]; exact List.getElem_mem hp)
        omega
    · have := old x (List.mem_of_mem_drop h); omega
theorem halves_len (l : List Row) : 1 ≤ (halves l).length ∧ (halves l).length ≤ 2 := by unfold halves; split <;> simp
theorem put_len {ls : List (List Row)} {r : Row} (hg : leavesFault ls = 0) : (put ls r).length ≤ 61 := by
  have := good_len hg
  unfold put
  split
  · simp
  · have hp := forAt_lt (ls := ls) (key := r.k) (k := ls.length) (by omega)
    have := halves_len (into r (ls.getD (forAt ls r.k ls.length) []))
    simp only [List.length_append, List.length_take, List.length_drop]
    omega
theorem sum_le (ls : List (List Row)) (q : Nat) (h : ∀ x ∈ ls, x.length ≤ q) : (ls.map List.length).sum ≤ ls.length * q := by
  induction ls with
  | nil => simp
  | cons x ls ih =>
    have h1 := h x List.mem_cons_self
    have h2 := ih (fun y hy => h y (List.mem_cons_of_mem _ hy))
    simp only [List.map_cons, List.sum_cons, List.length_cons]
    rw [Nat.add_mul]
    omega
theorem put_size {ls : List (List Row)} {r : Row} (hg : leavesFault ls = 0) : Ch.lvSize (put ls r) ≤ 1048576 := by
  have h1 := put_len (r := r) hg
  have h2 := sum_le (put ls r) 5 (fun x hx => (put_mem hg hx).2)
  unfold lvSize
  omega
theorem put_full {ls : List (List Row)} {r : Row} (hg : leavesFault ls = 0) (k : Nat) (hk : k < (put ls r).length) : ((put ls r).getD k []).length ≠ 0 := by
  have := (put_mem hg (x := (put ls r).getD k []) (by rw [getD_get _ [] k hk]; exact List.getElem_mem hk)).1
  omega
end Go.Proofs.Ytlpncikiaojmiaa.Ch
namespace Go.Proofs.Ytlpncikiaojmiaa.Ch
theorem rowFault_key {k v : Int} {g : Bool} (h : rowFault k v g = 0) : 0 ≤ k ∧ k ≤ 99 := by
  unfold rowFault at h
  cases hk : inB k 0 99
  · simp [hk] at h
  · unfold inB at hk; simp at hk; omega
end Go.Proofs.Ytlpncikiaojmiaa.Ch
