
/- A row dropped from leaves: plain. -/
import Derived.Test.YtlpncikiaojmiaaPlaceM
namespace Go.Proofs.Ytlpncikiaojmiaa.Ch
def notK (key : Int) (r : Row) : Bool := r.k != key
def full (l : List Row) : Bool := decide (0 < l.length)
def drop (ls : List (List Row)) (key : Int) : List (List Row) := (ls.map (List.filter (notK key))).filter full
/-- What DropRow answers. -/
def dropR (ls : List (List Row)) (key : Int) : Int × List (List Row) :=
  if asked ls key != 0 then (asked ls key, []) else match findR ls key with
    | none => (4, [])
    | some _ => (0, drop ls key)
theorem dropR_code {ls : List (List Row)} {key : Int} (h : (asked ls key != 0) = true) : dropR ls key = (asked ls key, []) := by rw [dropR, if_pos h]
theorem dropR_none {ls : List (List Row)} {key : Int} (h : (asked ls key != 0) = false) (hf : findR ls key = none) : dropR ls key = (4, []) := by
  rw [dropR, if_neg (by rw [h]; exact Bool.false_ne_true), hf]
theorem dropR_some {ls : List (List Row)} {key : Int} {r : Row} (h : (asked ls key != 0) = false) (hf : findR ls key = some r) : dropR ls key = (0, drop ls key) := by
  rw [dropR, if_neg (by rw [h]; exact Bool.false_ne_true), hf]
theorem filter_all {α : Type} {p : α → Bool} {l : List α} (h : ∀ x ∈ l, p x = true) : l.filter p = l := List.filter_eq_self.2 h
theorem split_at {α : Type} (l : List α) (d : α) (i : Nat) (h : i < l.length) : l = l.take i ++ l.getD i d :: l.drop (i + 1) := by
  rw [getD_get l d i h, ← List.drop_eq_getElem_cons h, List.take_append_drop]
theorem drop_leaf {l : List Row} (hp : l.Pairwise (fun a b => a.k < b.k)) {j : Nat} (hj : j < l.length) {key : Int} (hk : (l.getD j Row.zero).k = key) : l.filter (notK key) = l.take j ++ l.drop (j + 1) := by
  have hs := split_at l Row.zero j hj
  have hp' := hp
  rw [hs] at hp'
  rw [List.pairwise_append] at hp'
  obtain ⟨_, h2, h3⟩ := hp'
  have h4 := (List.pairwise_cons.1 h2).1
  conv => lhs; rw [hs]
  rw [List.filter_append, filter_all (l := l.take j), List.filter_cons, if_neg (by unfold notK; rw [hk]; simp), filter_all (l := l.drop (j + 1))]
  · intro x hx
    have := h4 x hx
    simp [notK]
    omega
  · intro x hx
    have := h3 x hx _ (List.mem_cons_self)
    simp [notK]
    omega
theorem drop_other {l : List Row} {key : Int} (h : ∀ r ∈ l, r.k ≠ key) : l.filter (notK key) = l := filter_all fun r hr => by simp [notK, h r hr]
/-- The leaf of the key is cut; without rows it is gone; the others are as they were. -/
theorem drop_is {ls : List (List Row)} (hg : leavesFault ls = 0) {i j : Nat} (hi : i < ls.length) (hj : j < (ls.getD i []).length) {key : Int} (hk : keyAt ls i j = key) :
    drop ls key = ls.take i ++ (if (ls.getD i []).length = 1 then [] else [(ls.getD i []).take j ++ (ls.getD i []).drop (j + 1)]) ++ ls.drop (i + 1) := by
  have hs := split_at ls [] i hi
  have hup := up_of hg
  have hl := drop_leaf (hup.1 (ls.getD i []) (by rw [getD_get ls [] i hi]; exact List.getElem_mem hi)) hj (key := key) hk
  have far : ∀ i', i' < ls.length → i' ≠ i → ∀ r ∈ ls.getD i' [], r.k ≠ key := by
    intro i' hi' hne r hr he
    obtain ⟨j', hj', rfl⟩ := List.getElem_of_mem hr
    have : keyAt ls i' j' = keyAt ls i j := by
      unfold keyAt rowAt
      rw [getD_get _ _ _ hj', he]
      exact hk.symm
    exact hne (keys_apart hg hi' hj' hi hj this).1
  have other : ∀ l, l ∈ ls.take i ∨ l ∈ ls.drop (i + 1) → l.filter (notK key) = l ∧ full l = true := by
    intro l hl
    have hex : ∃ i', i' < ls.length ∧ i' ≠ i ∧ l = ls.getD i' [] := by
      rcases hl with hl | hl
      · obtain ⟨i', hi', rfl⟩ := List.getElem_of_mem hl
        have h1 : i' < i := by simp at hi'; omega
        exact ⟨i', by omega, by omega, by rw [getD_get _ _ _ (by omega)]; simp⟩
      · obtain ⟨i', hi', rfl⟩ := List.getElem_of_mem hl
        have h1 : i + 1 + i' < ls.length := by simp at hi'; omega
        exact ⟨i + 1 + i', h1, by omega, by rw [getD_get _ _ _ h1]; simp⟩
    obtain ⟨i', hi', hne, rfl⟩ := hex
    refine ⟨drop_other (far i' hi' hne), ?_⟩
    have := (good_leaf hg i' hi').1
    unfold full
    rw [decide_eq_true_eq]
    omega
  have m1 : (ls.take i).map (List.filter (notK key)) = ls.take i := by
    rw [List.map_congr_left (g := id) (fun l hl => (other l (.inl hl)).1), List.map_id]
  have m2 : (ls.drop (i + 1)).map (List.filter (notK key)) = ls.drop (i + 1) := by
    rw [List.map_congr_left (g := id) (fun l hl => (other l (.inr hl)).1), List.map_id]
  have f1 : (ls.take i).filter full = ls.take i := filter_all fun l hl => (other l (.inl hl)).2
  have f2 : (ls.drop (i + 1)).filter full = ls.drop (i + 1) := filter_all fun l hl => (other l (.inr hl)).2
  unfold drop
  conv => lhs; rw [hs]
  rw [List.map_append, List.map_cons, m1, m2, hl, List.filter_append, List.filter_cons, f1, f2]
  generalize ls.getD i [] = l at *
  by_cases h1 : l.length = 1
  · have : full (l.take j ++ l.drop (j + 1)) = false := by simp [full]; omega
    rw [this, if_pos h1]
    simp
  · have : full (l.take j ++ l.drop (j + 1)) = true := by simp [full]; omega
    rw [this, if_neg h1]
    simp
theorem drop_take (ls : List (List Row)) (key : Int) (k : Nat) (h : k < ls.length) : drop (ls.take (k + 1)) key = drop (ls.take k) key ++ (if full ((ls.getD k []).filter (notK key)) then [(ls.getD k []).filter (notK key)] else []) := by
  rw [take_snoc ls [] k h]
  unfold drop
  rw [List.map_append, List.filter_append]
  simp only [List.map_cons, List.map_nil, List.filter_cons, List.filter_nil]
end Go.Proofs.Ytlpncikiaojmiaa.Ch
