
/- Right leaves, told by their rows one behind the other: plain. -/
import Derived.Test.YtlpncikiaojmiaaPutN
namespace Go.Proofs.Ytlpncikiaojmiaa.Ch
theorem rise_iff (l : List Row) (p : Option Int) : riseFrom p l = 0 ↔ (∀ r ∈ l, r.fault = 0) ∧ l.Pairwise (fun a b => a.k < b.k) ∧ ∀ q, p = some q → ∀ r ∈ l, q < r.k := by
  induction l generalizing p with
  | nil => simp [riseFrom]
  | cons x l ih =>
    rw [riseFrom_cons]
    by_cases hx : (x.fault != 0) = true
    · rw [if_pos hx]
      refine ⟨fun h => by simp [h] at hx, fun h => h.1 x List.mem_cons_self⟩
    · rw [if_neg hx]
      have hx0 : x.fault = 0 := by simpa using hx
      by_cases hl : low p x.k = true
      · rw [if_pos hl]
        refine ⟨fun h => by omega, fun h => ?_⟩
        cases p with
        | none => simp [low] at hl
        | some q =>
          have := h.2.2 q rfl x List.mem_cons_self
          simp [low] at hl
          omega
      · rw [if_neg hl, ih]
        have hl' := low_false hl
        constructor
        · rintro ⟨h1, h2, h3⟩
          refine ⟨fun r hr => ?_, List.Pairwise.cons (fun r hr => h3 x.k rfl r hr) h2, fun q hq r hr => ?_⟩
          · rcases List.mem_cons.1 hr with rfl | hr
            · exact hx0
            · exact h1 r hr
          · have h4 := hl' q hq
            rcases List.mem_cons.1 hr with rfl | hr
            · exact h4
            · have := h3 x.k rfl r hr
              omega
        · rintro ⟨h1, h2, h3⟩
          obtain ⟨h4, h5⟩ := List.pairwise_cons.1 h2
          refine ⟨fun r hr => h1 r (List.mem_cons_of_mem _ hr), h5, fun q hq r hr => ?_⟩
          cases hq
          exact h4 r hr
theorem page_iff (l : List Row) : pageFault l = 0 ↔ l.length ≤ 4 ∧ (∀ r ∈ l, r.fault = 0) ∧ l.Pairwise (fun a b => a.k < b.k) := by
  unfold pageFault
  by_cases h : 4 < l.length
  · rw [if_pos h]
    exact ⟨fun h => by omega, fun h => by omega⟩
  · rw [if_neg h]
    show riseFrom none l = 0 ↔ _
    rw [rise_iff]
    exact ⟨fun h' => ⟨by omega, h'.1, h'.2.1⟩, fun h' => ⟨h'.2.1, h'.2.2, fun q hq => by cases hq⟩⟩
theorem first_mem {l : List Row} (h : l.length ≠ 0) : ∃ r ∈ l, r.k = firstK l := by
  refine ⟨l.getD 0 Row.zero, ?_, rfl⟩
  rw [getD_get _ _ 0 (by omega)]
  exact List.getElem_mem _
theorem last_mem {l : List Row} (h : l.length ≠ 0) : ∃ r ∈ l, r.k = lastK l := by
  refine ⟨l.getD (l.length - 1) Row.zero, ?_, rfl⟩
  rw [getD_get _ _ (l.length - 1) (by omega)]
  exact List.getElem_mem _
theorem lv_iff (ls : List (List Row)) (p : Option Int) : lvFrom p ls = 0 ↔ (∀ l ∈ ls, l.length ≠ 0 ∧ l.length ≤ 4) ∧ (∀ r ∈ ls.flatten, r.fault = 0) ∧ ls.flatten.Pairwise (fun a b => a.k < b.k) ∧ ∀ q, p = some q → ∀ r ∈ ls.flatten, q < r.k := by
  induction ls generalizing p with
  | nil => simp [lvFrom]
  | cons l ls ih =>
    rw [lvFrom_cons]
    by_cases h0 : l.length = 0
    · rw [if_pos h0]
      exact ⟨fun h => by omega, fun h => absurd h0 (h.1 l List.mem_cons_self).1⟩
    · rw [if_neg h0]
      obtain ⟨x, hx, ex⟩ := first_mem h0
      obtain ⟨y, hy, ey⟩ := last_mem h0
      by_cases hp : (pageFault l != 0) = true
      · rw [if_pos hp]
        refine ⟨fun h => by simp [h] at hp, fun h => ?_⟩
        rw [List.flatten_cons] at h
        refine (page_iff l).2 ⟨(h.1 l List.mem_cons_self).2, fun r hr => h.2.1 r (List.mem_append_left _ hr), (List.pairwise_append.1 h.2.2.1).1⟩
      · rw [if_neg hp]
        have ⟨p1, p2, p3⟩ := (page_iff l).1 (by simpa using hp)
        have hfi := pair_first p3
        have hla := pair_last p3
        by_cases hl : low p (firstK l) = true
        · rw [if_pos hl]
          refine ⟨fun h => by omega, fun h => ?_⟩
          cases p with
          | none => simp [low] at hl
          | some q =>
            have := h.2.2.2 q rfl x (by rw [List.flatten_cons]; exact List.mem_append_left _ hx)
            simp [low] at hl
            omega
        · rw [if_neg hl, ih, List.flatten_cons, List.pairwise_append]
          have hl' := low_false hl
          constructor
          · rintro ⟨h1, h2, h3, h4⟩
            refine ⟨fun m hm => ?_, fun r hr => ?_, ⟨p3, h3, fun a ha b hb => ?_⟩, fun q hq r hr => ?_⟩
            · rcases List.mem_cons.1 hm with rfl | hm
              · exact ⟨h0, p1⟩
              · exact h1 m hm
            · rcases List.mem_append.1 hr with hr | hr
              · exact p2 r hr
              · exact h2 r hr
            · have := hla a ha
              have := h4 (lastK l) rfl b hb
              omega
            · have h5 := hl' q hq
              rcases List.mem_append.1 hr with hr | hr
              · have := hfi r hr
                omega
              · have h6 := h4 (lastK l) rfl r hr
                have h7 := hla x hx
                omega
          · rintro ⟨h1, h2, ⟨_, h4, h5⟩, h6⟩
            refine ⟨fun m hm => h1 m (List.mem_cons_of_mem _ hm), fun r hr => h2 r (List.mem_append_right _ hr), h4, fun q hq r hr => ?_⟩
            cases hq
            have := h5 y hy r hr
            omega
/-- Right leaves: at most 60, each of one to four rows; the rows one behind the other are right and rise. -/
theorem good_iff (ls : List (List Row)) : leavesFault ls = 0 ↔ ls.length ≤ 60 ∧ (∀ l ∈ ls, l.length ≠ 0 ∧ l.length ≤ 4) ∧ (∀ r ∈ ls.flatten, r.fault = 0) ∧ ls.flatten.Pairwise (fun a b => a.k < b.k) := by
  unfold leavesFault
  by_cases h : 60 < ls.length
  · rw [if_pos h]
    exact ⟨fun h => by omega, fun h => by omega⟩
  · rw [if_neg h, lv_iff]
    exact ⟨fun h' => ⟨by omega, h'.1, h'.2.1, h'.2.2.1⟩, fun h' => ⟨h'.2.1, h'.2.2.1, h'.2.2.2, fun q hq => by cases hq⟩⟩
end Go.Proofs.Ytlpncikiaojmiaa.Ch
