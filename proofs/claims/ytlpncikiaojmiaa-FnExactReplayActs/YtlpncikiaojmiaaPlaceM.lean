
/- Keys of leaves: they rise, so no two rows share one; plain. -/
import Derived.Test.YtlpncikiaojmiaaForM
namespace Go.Proofs.Ytlpncikiaojmiaa.Ch
theorem low_false {p : Option Int} {k : Int} (h : ¬ low p k = true) : ∀ q, p = some q → q < k := by
  intro q hq
  subst hq
  simp [low] at h
  omega
theorem rise_up {rs : List Row} {p : Option Int} (h : riseFrom p rs = 0) : (∀ r ∈ rs, ∀ q, p = some q → q < r.k) ∧ rs.Pairwise (fun a b => a.k < b.k) := by
  induction rs generalizing p with
  | nil => exact ⟨fun r hr => by simp at hr, List.Pairwise.nil⟩
  | cons q rs ih =>
    rw [riseFrom_cons] at h
    by_cases hq : (q.fault != 0) = true
    · rw [if_pos hq] at h; simp [h] at hq
    · rw [if_neg hq] at h
      by_cases hl : low p q.k = true
      · rw [if_pos hl] at h; omega
      · rw [if_neg hl] at h
        have ⟨h1, h2⟩ := ih h
        refine ⟨?_, List.Pairwise.cons (fun r hr => h1 r hr q.k rfl) h2⟩
        intro r hr z hz
        have h0 := low_false hl z hz
        rcases List.mem_cons.1 hr with rfl | hr
        · exact h0
        · have := h1 r hr q.k rfl
          omega
theorem page_up {l : List Row} (h : pageFault l = 0) : l.Pairwise (fun a b => a.k < b.k) := by
  unfold pageFault at h
  by_cases h4 : 4 < l.length
  · rw [if_pos h4] at h; omega
  · rw [if_neg h4] at h
    exact (rise_up h).2
theorem pair_first {l : List Row} (h : l.Pairwise (fun a b => a.k < b.k)) : ∀ r ∈ l, firstK l ≤ r.k := by
  cases l with
  | nil => intro r hr; simp at hr
  | cons q l =>
    intro r hr
    have e : firstK (q :: l) = q.k := rfl
    rw [e]
    rcases List.mem_cons.1 hr with rfl | hr
    · omega
    · have := (List.pairwise_cons.1 h).1 r hr
      omega
theorem pair_last {l : List Row} (h : l.Pairwise (fun a b => a.k < b.k)) : ∀ r ∈ l, r.k ≤ lastK l := by
  intro r hr
  obtain ⟨j, hj, rfl⟩ := List.getElem_of_mem hr
  have hl : l.length - 1 < l.length := by omega
  have e : lastK l = (l[l.length - 1]).k := by simp [lastK, List.getD, hl]
  rw [e]
  by_cases hjl : j = l.length - 1
  · subst hjl; omega
  · have := (List.pairwise_iff_getElem.1 h) j (l.length - 1) hj hl (by omega)
    omega
theorem leaves_up {ls : List (List Row)} {p : Option Int} (h : lvFrom p ls = 0) : (∀ l ∈ ls, ∀ r ∈ l, ∀ q, p = some q → q < r.k) ∧ (∀ l ∈ ls, l.Pairwise (fun a b => a.k < b.k)) ∧ ls.Pairwise (fun a b => ∀ x ∈ a, ∀ y ∈ b, x.k < y.k) := by
  induction ls generalizing p with
  | nil => exact ⟨fun r hr => by simp at hr, fun r hr => by simp at hr, List.Pairwise.nil⟩
  | cons q ls ih =>
    rw [lvFrom_cons] at h
    by_cases h0 : q.length = 0
    · rw [if_pos h0] at h; omega
    · rw [if_neg h0] at h
      by_cases hq : (pageFault q != 0) = true
      · rw [if_pos hq] at h; simp [h] at hq
      · rw [if_neg hq] at h
        by_cases hl : low p (firstK q) = true
        · rw [if_pos hl] at h; omega
        · rw [if_neg hl] at h
          have ⟨h1, h2, h3⟩ := ih h
          have hup := page_up (l := q) (by simpa using hq)
          have hfi := pair_first hup
          have hla := pair_last hup
          refine ⟨?_, ?_, List.Pairwise.cons ?_ h3⟩
          · intro l hm r hr z hz
            have hz0 := low_false hl z hz
            rcases List.mem_cons.1 hm with rfl | hm
            · have := hfi r hr; omega
            · have := h1 l hm r hr (lastK q) rfl
              obtain ⟨x, hx⟩ := List.exists_mem_of_length_pos (l := q) (by omega)
              have h5 := hfi x hx
              have h6 := hla x hx
              omega
          · intro l hm
            rcases List.mem_cons.1 hm with rfl | hm
            · exact hup
            · exact h2 l hm
          · intro l hm x hx y hy
            have := h1 l hm y hy (lastK q) rfl
            have := hla x hx
            omega
theorem up_of {ls : List (List Row)} (h : leavesFault ls = 0) : (∀ l ∈ ls, l.Pairwise (fun a b => a.k < b.k)) ∧ ls.Pairwise (fun a b => ∀ x ∈ a, ∀ y ∈ b, x.k < y.k) := by
  unfold leavesFault at h
  by_cases h6 : 60 < ls.length
  · rw [if_pos h6] at h; omega
  · rw [if_neg h6] at h
    exact (leaves_up h).2
/-- The row at a place. -/
def rowAt (ls : List (List Row)) (i j : Nat) : Row := (ls.getD i []).getD j Row.zero
def keyAt (ls : List (List Row)) (i j : Nat) : Int := (rowAt ls i j).k
theorem getD_get {α : Type} (l : List α) (d : α) (i : Nat) (h : i < l.length) : l.getD i d = l[i] := by simp [List.getD, h]
theorem keys_apart {ls : List (List Row)} (h : leavesFault ls = 0) {i j i' j' : Nat} (hi : i < ls.length) (hj : j < (ls.getD i []).length) (hi' : i' < ls.length) (hj' : j' < (ls.getD i' []).length) (he : keyAt ls i j = keyAt ls i' j') : i = i' ∧ j = j' := by
  obtain ⟨h1, h2⟩ := up_of h
  unfold keyAt rowAt at he
  rw [getD_get _ _ _ hj, getD_get _ _ _ hj'] at he
  rcases Nat.lt_trichotomy i i' with hlt | heq | hgt
  · exfalso
    have := (List.pairwise_iff_getElem.1 h2) i i' hi hi' hlt ((ls.getD i [])[j]) (by rw [← getD_get ls [] i hi]; exact List.getElem_mem hj) ((ls.getD i' [])[j']) (by rw [← getD_get ls [] i' hi']; exact List.getElem_mem hj')
    omega
  · subst heq
    refine ⟨rfl, ?_⟩
    have hp := h1 (ls.getD i []) (by rw [getD_get ls [] i hi]; exact List.getElem_mem hi)
    rcases Nat.lt_trichotomy j j' with hl | he' | hg
    · have := (List.pairwise_iff_getElem.1 hp) j j' hj hj' hl; omega
    · exact he'
    · have := (List.pairwise_iff_getElem.1 hp) j' j hj' hj hg; omega
  · exfalso
    have := (List.pairwise_iff_getElem.1 h2) i' i hi' hi hgt ((ls.getD i' [])[j']) (by rw [← getD_get ls [] i' hi']; exact List.getElem_mem hj') ((ls.getD i [])[j]) (by rw [← getD_get ls [] i hi]; exact List.getElem_mem hj)
    omega
theorem key_fits {ls : List (List Row)} (h : leavesFault ls = 0) {i : Nat} (j : Nat) (hi : i < ls.length) : 0 ≤ keyAt ls i j ∧ keyAt ls i j ≤ 99 := by
  have := (allFit_of_page (good_leaf h i hi).2).1 j
  exact ⟨this.1, this.2.1⟩
/-- The row of a key. -/
def findR (ls : List (List Row)) (key : Int) : Option Row := ls.flatten.find? (fun r => r.k == key)
theorem find_some {ls : List (List Row)} {key : Int} {r : Row} (h : findR ls key = some r) : ∃ i j, i < ls.length ∧ j < (ls.getD i []).length ∧ rowAt ls i j = r ∧ r.k = key := by
  have hk := List.find?_some h
  have hm := List.mem_of_find?_eq_some h
  obtain ⟨l, hl, hr⟩ := List.mem_flatten.1 hm
  obtain ⟨i, hi, rfl⟩ := List.getElem_of_mem hl
  obtain ⟨j, hj, rfl⟩ := List.getElem_of_mem hr
  refine ⟨i, j, hi, by rw [getD_get ls [] i hi]; exact hj, ?_, by simpa using hk⟩
  unfold rowAt
  rw [getD_get ls [] i hi, getD_get _ _ _ hj]
theorem find_none {ls : List (List Row)} {key : Int} (h : findR ls key = none) : ∀ i j, i < ls.length → j < (ls.getD i []).length → keyAt ls i j ≠ key := by
  intro i j hi hj he
  have := List.find?_eq_none.1 h (rowAt ls i j) (by
    refine List.mem_flatten.2 ⟨ls.getD i [], ?_, ?_⟩
    · rw [getD_get ls [] i hi]; exact List.getElem_mem hi
    · unfold rowAt; rw [getD_get _ _ _ hj]; exact List.getElem_mem hj)
  unfold keyAt at he
  simp [he] at this
end Go.Proofs.Ytlpncikiaojmiaa.Ch
