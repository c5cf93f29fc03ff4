
/- What a put and a drop leave behind: plain. -/
import Derived.Test.YtlpncikiaojmiaaGoodM
namespace Go.Proofs.Ytlpncikiaojmiaa.Ch
theorem into_mem {r : Row} {l : List Row} {x : Row} : x ∈ into r l ↔ x = r ∨ (x ∈ l ∧ x.k ≠ r.k) := by
  induction l with
  | nil => simp [into]
  | cons y l ih =>
    simp only [into]
    split
    · rename_i hy
      rw [List.mem_cons, ih, List.mem_cons]
      constructor
      · rintro (rfl | rfl | ⟨h1, h2⟩)
        · exact .inr ⟨.inl rfl, by omega⟩
        · exact .inl rfl
        · exact .inr ⟨.inr h1, h2⟩
      · rintro (rfl | ⟨rfl | h1, h2⟩)
        · exact .inr (.inl rfl)
        · exact .inl rfl
        · exact .inr (.inr ⟨h1, h2⟩)
    · rw [List.mem_cons, List.mem_filter]
      simp [notK]
theorem into_up {r : Row} {l : List Row} (h : l.Pairwise (fun a b => a.k < b.k)) : (into r l).Pairwise (fun a b => a.k < b.k) := by
  induction l with
  | nil => simp [into]
  | cons y l ih =>
    obtain ⟨h1, h2⟩ := List.pairwise_cons.1 h
    simp only [into]
    split
    · rename_i hy
      refine List.Pairwise.cons (fun x hx => ?_) (ih h2)
      rcases into_mem.1 hx with rfl | ⟨hx, _⟩
      · exact hy
      · exact h1 x hx
    · rename_i hy
      refine List.Pairwise.cons (fun x hx => ?_) (h.filter _)
      obtain ⟨hx, hk⟩ := List.mem_filter.1 hx
      simp [notK] at hk
      rcases List.mem_cons.1 hx with rfl | hx
      · omega
      · have := h1 x hx
        omega
theorem into_high {r : Row} {l c : List Row} (h : ∀ x ∈ c, r.k < x.k) : into r (l ++ c) = into r l ++ c := by
  induction l with
  | nil =>
    cases c with
    | nil => simp [into]
    | cons x c =>
      have h1 := h x List.mem_cons_self
      have h2 : (x :: c).filter (notK r.k) = x :: c := filter_all fun y hy => by have := h y hy; simp [notK]; omega
      simp only [List.nil_append, into, if_neg (show ¬ x.k < r.k by omega), h2]
      rfl
  | cons y l ih =>
    simp only [List.cons_append, into]
    split
    · rw [ih]; rfl
    · have h2 : c.filter (notK r.k) = c := filter_all fun y hy => by have := h y hy; simp [notK]; omega
      rw [← List.cons_append, List.filter_append, h2]
      rfl
theorem forAt_spec (ls : List (List Row)) (key : Int) (n : Nat) : (forAt ls key n = 0 ∨ firstK (ls.getD (forAt ls key n) []) ≤ key) ∧ ∀ k, forAt ls key n < k → k < n → key < firstK (ls.getD k []) := by
  induction n with
  | zero => exact ⟨.inl rfl, fun k _ h => by omega⟩
  | succ n ih =>
    by_cases h : firstK (ls.getD n []) ≤ key
    · rw [forAt_yes h]
      exact ⟨.inr h, fun k h1 h2 => by omega⟩
    · rw [forAt_no h]
      refine ⟨ih.1, fun k h1 h2 => ?_⟩
      by_cases e : k = n
      · subst e; omega
      · exact ih.2 k h1 (by omega)
theorem halves_flat (l : List Row) : (halves l).flatten = l := by
  unfold halves
  split <;> simp
/-- The rows of leaves into which a row is put: the row put into the rows. -/
theorem put_flat {ls : List (List Row)} {r : Row} (hg : leavesFault ls = 0) : (put ls r).flatten = into r ls.flatten := by
  unfold put
  by_cases h0 : ls.length = 0
  · rw [if_pos h0]
    obtain rfl := List.length_eq_zero_iff.1 h0
    simp [into]
  · rw [if_neg h0]
    have hp := forAt_lt (ls := ls) (key := r.k) (k := ls.length) (by omega)
    obtain ⟨s1, s2⟩ := forAt_spec ls r.k ls.length
    generalize forAt ls r.k ls.length = p at *
    have hup := up_of hg
    have hs := split_at ls [] p hp
    have hA : ∀ x ∈ (ls.take p).flatten, x.k < r.k := by
      intro x hx
      obtain ⟨l, hl, hxl⟩ := List.mem_flatten.1 hx
      obtain ⟨i, hi, rfl⟩ := List.getElem_of_mem hl
      have hip : i < p := by simp at hi; omega
      rcases s1 with s1 | s1
      · omega
      · obtain ⟨y, hy, ey⟩ := first_mem (good_leaf hg p hp).1
        have := List.pairwise_iff_getElem.1 hup.2 i p (by omega) hp hip x (by simpa using hxl) y (by rw [← getD_get ls [] p hp]; exact hy)
        omega
    have hC : ∀ x ∈ (ls.drop (p + 1)).flatten, r.k < x.k := by
      intro x hx
      obtain ⟨l, hl, hxl⟩ := List.mem_flatten.1 hx
      obtain ⟨i, hi, rfl⟩ := List.getElem_of_mem hl
      have hin : p + 1 + i < ls.length := by simp at hi; omega
      have h1 := s2 (p + 1 + i) (by omega) hin
      have hxl' : x ∈ ls[p + 1 + i] := by simpa using hxl
      have h2 := pair_first (hup.1 _ (List.getElem_mem hin)) x hxl'
      rw [getD_get ls [] _ hin] at h1
      omega
    conv => rhs; rw [hs]
    rw [List.flatten_append, List.flatten_append, halves_flat, List.flatten_append, List.flatten_cons, into_low hA, into_high hC, List.append_assoc]
theorem into_find {r : Row} {l : List Row} : (into r l).find? (fun x => x.k == r.k) = some r := by
  induction l with
  | nil => simp [into]
  | cons y l ih =>
    simp only [into]
    split
    · rename_i hy
      rw [List.find?_cons_of_neg (by simp; omega)]
      exact ih
    · rw [List.find?_cons_of_pos (by simp)]
theorem into_find_other {r : Row} {l : List Row} {k : Int} (h : k ≠ r.k) : (into r l).find? (fun x => x.k == k) = l.find? (fun x => x.k == k) := by
  have hf : ∀ m : List Row, (m.filter (notK r.k)).find? (fun x => x.k == k) = m.find? (fun x => x.k == k) := by
    intro m
    induction m with
    | nil => rfl
    | cons y m ih =>
      by_cases hy : notK r.k y = true
      · rw [List.filter_cons, if_pos hy, List.find?_cons, List.find?_cons, ih]
      · have e : y.k = r.k := by simpa [notK] using hy
        rw [List.filter_cons, if_neg hy, ih, List.find?_cons_of_neg (by simp; omega)]
  induction l with
  | nil => simp only [into]; rw [List.find?_cons_of_neg (by simp; omega)]
  | cons y l ih =>
    simp only [into]
    split
    · rw [List.find?_cons, List.find?_cons, ih]
    · rw [List.find?_cons_of_neg (by simp; omega), hf]
theorem put_find {ls : List (List Row)} {r : Row} (hg : leavesFault ls = 0) : findR (put ls r) r.k = some r := by
  unfold findR
  rw [put_flat hg]
  exact into_find
theorem put_find_other {ls : List (List Row)} {r : Row} (hg : leavesFault ls = 0) {k : Int} (h : k ≠ r.k) : findR (put ls r) k = findR ls k := by
  unfold findR
  rw [put_flat hg]
  exact into_find_other h
theorem halves_four {l x : List Row} (h : x ∈ halves l) (h5 : l.length ≤ 5) : x.length ≤ 4 := by
  unfold halves at h
  split at h
  · simp only [List.mem_singleton] at h; subst h; omega
  · simp only [List.mem_cons, List.not_mem_nil, or_false] at h
    rcases h with rfl | rfl <;> simp <;> omega
theorem put_good {ls : List (List Row)} {r : Row} (hg : leavesFault ls = 0) (hr : r.fault = 0) (hl : (put ls r).length ≤ 60) : leavesFault (put ls r) = 0 := by
  have hgi := (good_iff ls).1 hg
  refine (good_iff _).2 ⟨hl, fun x hx => ⟨by have := (put_mem hg hx).1; omega, ?_⟩, fun x hx => ?_, ?_⟩
  · unfold put at hx
    split at hx
    · simp only [List.mem_singleton] at hx; subst hx; simp
    · have hp := forAt_lt (ls := ls) (key := r.k) (k := ls.length) (by omega)
      rcases List.mem_append.1 hx with hx | hx
      · rcases List.mem_append.1 hx with hx | hx
        · exact (hgi.2.1 x (List.mem_of_mem_take hx)).2
        · refine halves_four hx ?_
          have h1 := into_len r (ls.getD (forAt ls r.k ls.length) [])
          have h2 := (hgi.2.1 (ls.getD (forAt ls r.k ls.length) []) (by rw [getD_get ls [] _ hp]; exact List.getElem_mem hp)).2
          omega
      · exact (hgi.2.1 x (List.mem_of_mem_drop hx)).2
  · rw [put_flat hg] at hx
    rcases into_mem.1 hx with rfl | ⟨h, _⟩
    · exact hr
    · exact hgi.2.2.1 x h
  · rw [put_flat hg]
    exact into_up hgi.2.2.2
theorem drop_flat (ls : List (List Row)) (key : Int) : (drop ls key).flatten = ls.flatten.filter (notK key) := by
  unfold drop
  induction ls with
  | nil => rfl
  | cons l ls ih =>
    rw [List.map_cons, List.filter_cons, List.flatten_cons, List.filter_append, ← ih]
    split
    · rw [List.flatten_cons]
    · rename_i h
      have : l.filter (notK key) = [] := by
        unfold full at h
        simp only [decide_eq_true_eq] at h
        exact List.length_eq_zero_iff.1 (by omega)
      rw [this]; rfl
theorem drop_good {ls : List (List Row)} (hg : leavesFault ls = 0) (key : Int) : leavesFault (drop ls key) = 0 := by
  have hgi := (good_iff ls).1 hg
  refine (good_iff _).2 ⟨?_, fun x hx => ?_, fun x hx => ?_, ?_⟩
  · have h1 := List.length_filter_le full (ls.map (List.filter (notK key)))
    rw [List.length_map] at h1
    unfold drop
    omega
  · unfold drop at hx
    obtain ⟨hx, hf⟩ := List.mem_filter.1 hx
    obtain ⟨l, hl, rfl⟩ := List.mem_map.1 hx
    have h1 := List.length_filter_le (notK key) l
    have h2 := (hgi.2.1 l hl).2
    unfold full at hf
    simp only [decide_eq_true_eq] at hf
    omega
  · rw [drop_flat] at hx
    exact hgi.2.2.1 x (List.mem_filter.1 hx).1
  · rw [drop_flat]
    exact hgi.2.2.2.filter _
theorem drop_find (ls : List (List Row)) (key : Int) : findR (drop ls key) key = none := by
  unfold findR
  rw [drop_flat, List.find?_eq_none]
  intro x hx
  have := (List.mem_filter.1 hx).2
  simpa [notK] using this
end Go.Proofs.Ytlpncikiaojmiaa.Ch
