/- Several texts in one: ForM, PlaceM, DropM, PutM. -/
import Derived.Test.YtjagobcogkdfhaaMath3


/- The place of the leaf for a key: plain. -/
namespace Go.Proofs.Ytjagobcogkdfhaa.Ch
/-- The place of the last of the first k leaves whose first key is at most key; 0: there is none. -/
def forAt (ls : List (List Row)) (key : Int) : Nat → Nat
  | 0 => 0
  | k + 1 => if firstK (ls.getD k []) ≤ key then k else forAt ls key k
theorem forAt_le (ls : List (List Row)) (key : Int) (k : Nat) : forAt ls key k ≤ k := by
  induction k with
  | zero => exact Nat.le_refl _
  | succ k ih => simp only [forAt]; split <;> omega
theorem forAt_yes {ls : List (List Row)} {key : Int} {k : Nat} (h : firstK (ls.getD k []) ≤ key) : forAt ls key (k + 1) = k := by
  rw [forAt, if_pos h]
theorem forAt_no {ls : List (List Row)} {key : Int} {k : Nat} (h : ¬ firstK (ls.getD k []) ≤ key) : forAt ls key (k + 1) = forAt ls key k := by
  rw [forAt, if_neg h]
/-- What is asked first: the leaves, the key. -/
def asked (ls : List (List Row)) (key : Int) : Int := if leavesFault ls != 0 then leavesFault ls else if inB key 0 99 then 0 else 3
/-- What LeafFor answers. -/
def leafFor (ls : List (List Row)) (key : Int) : Int × Int :=
  if asked ls key != 0 then (asked ls key, 0) else if ls.length = 0 then (4, 0) else (0, forAt ls key ls.length)
theorem asked_good {ls : List (List Row)} {key : Int} (h : asked ls key = 0) : leavesFault ls = 0 ∧ inB key 0 99 = true := by
  unfold asked at h
  by_cases hf : (leavesFault ls != 0) = true
  · rw [if_pos hf] at h; simp [h] at hf
  · rw [if_neg hf] at h
    by_cases hb : inB key 0 99 = true
    · exact ⟨by simpa using hf, hb⟩
    · rw [if_neg hb] at h; omega
end Go.Proofs.Ytjagobcogkdfhaa.Ch


/- Keys of leaves: they rise, so no two rows share one; plain. -/
namespace Go.Proofs.Ytjagobcogkdfhaa.Ch
theorem low_false {p : Option Int} {k : Int} (h : ¬ low p k = true) : ∀ q, p = some q → q < k := by
  intro q hq
  subst hq
  simp [low] at h
  omega
theorem rise_up {rs : List Row} {p : Option Int} (h : riseFrom p rs = 0) : (∀ r ∈ rs, ∀ q, p = some q → q < r.k) ∧ rs.Pairwise (fun a b => a.k < b.k) := by
  induction rs generalizing p with
  | nil => exact ⟨fun r hr => by simp at hr, List.Pairwise.nil⟩
  | cons q rs ih =>
    rw [riseFrom_cons] at h
    by_cases hq : (q.fault != 0) = true
    · rw [if_pos hq] at h; simp [h] at hq
    · rw [if_neg hq] at h
      by_cases hl : low p q.k = true
      · rw [if_pos hl] at h; omega
      · rw [if_neg hl] at h
        have ⟨h1, h2⟩ := ih h
        refine ⟨?_, List.Pairwise.cons (fun r hr => h1 r hr q.k rfl) h2⟩
        intro r hr z hz
        have h0 := low_false hl z hz
        rcases List.mem_cons.1 hr with rfl | hr
        · exact h0
        · have := h1 r hr q.k rfl
          omega
theorem page_up {l : List Row} (h : pageFault l = 0) : l.Pairwise (fun a b => a.k < b.k) := by
  unfold pageFault at h
  by_cases h4 : 4 < l.length
  · rw [if_pos h4] at h; omega
  · rw [if_neg h4] at h
    exact (rise_up h).2
theorem pair_first {l : List Row} (h : l.Pairwise (fun a b => a.k < b.k)) : ∀ r ∈ l, firstK l ≤ r.k := by
  cases l with
  | nil => intro r hr; simp at hr
  | cons q l =>
    intro r hr
    have e : firstK (q :: l) = q.k := rfl
    rw [e]
    rcases List.mem_cons.1 hr with rfl | hr
    · omega
    · have := (List.pairwise_cons.1 h).1 r hr
      omega
theorem pair_last {l : List Row} (h : l.Pairwise (fun a b => a.k < b.k)) : ∀ r ∈ l, r.k ≤ lastK l := by
  intro r hr
  obtain ⟨j, hj, rfl⟩ := List.getElem_of_mem hr
  have hl : l.length - 1 < l.length := by omega
  have e : lastK l = (l[l.length - 1]).k := by simp [lastK, List.getD, hl]
  rw [e]
  by_cases hjl : j = l.length - 1
  · subst hjl; omega
  · have := (List.pairwise_iff_getElem.1 h) j (l.length - 1) hj hl (by omega)
    omega
theorem leaves_up {ls : List (List Row)} {p : Option Int} (h : lvFrom p ls = 0) : (∀ l ∈ ls, ∀ r ∈ l, ∀ q, p = some q → q < r.k) ∧ (∀ l ∈ ls, l.Pairwise (fun a b => a.k < b.k)) ∧ ls.Pairwise (fun a b => ∀ x ∈ a, ∀ y ∈ b, x.k < y.k) := by
  induction ls generalizing p with
  | nil => exact ⟨fun r hr => by simp at hr, fun r hr => by simp at hr, List.Pairwise.nil⟩
  | cons q ls ih =>
    rw [lvFrom_cons] at h
    by_cases h0 : q.length = 0
    · rw [if_pos h0] at h; omega
    · rw [if_neg h0] at h
      by_cases hq : (pageFault q != 0) = true
      · rw [if_pos hq] at h; simp [h] at hq
      · rw [if_neg hq] at h
        by_cases hl : low p (firstK q) = true
        · rw [if_pos hl] at h; omega
        · rw [if_neg hl] at h
          have ⟨h1, h2, h3⟩ := ih h
          have hup := page_up (l := q) (by simpa using hq)
          have hfi := pair_first hup
          have hla := pair_last hup
          refine ⟨?_, ?_, List.Pairwise.cons ?_ h3⟩
          · intro l hm r hr z hz
            have hz0 := low_false hl z hz
            rcases List.mem_cons.1 hm with rfl | hm
            · have := hfi r hr; omega
            · have := h1 l hm r hr (lastK q) rfl
              obtain ⟨x, hx⟩ := List.exists_mem_of_length_pos (l := q) (by omega)
              have h5 := hfi x hx
              have h6 := hla x hx
              omega
          · intro l hm
            rcases List.mem_cons.1 hm with rfl | hm
            · exact hup
            · exact h2 l hm
          · intro l hm x hx y hy
            have := h1 l hm y hy (lastK q) rfl
            have := hla x hx
            omega
theorem up_of {ls : List (List Row)} (h : leavesFault ls = 0) : (∀ l ∈ ls, l.Pairwise (fun a b => a.k < b.k)) ∧ ls.Pairwise (fun a b => ∀ x ∈ a, ∀ y ∈ b, x.k < y.k) := by
  unfold leavesFault at h
  by_cases h6 : 60 < ls.length
  · rw [if_pos h6] at h; omega
  · rw [if_neg h6] at h
    exact (leaves_up h).2
/-- The row at a place. -/
def rowAt (ls : List (List Row)) (i j : Nat) : Row := (ls.getD i []).getD j Row.zero
def keyAt (ls : List (List Row)) (i j : Nat) : Int := (rowAt ls i j).k
theorem getD_get {α : Type} (l : List α) (d : α) (i : Nat) (h : i < l.length) : l.getD i d = l[i] := by simp [List.getD, h]
theorem keys_apart {ls : List (List Row)} (h : leavesFault ls = 0) {i j i' j' : Nat} (hi : i < ls.length) (hj : j < (ls.getD i []).length) (hi' : i' < ls.length) (hj' : j' < (ls.getD i' []).length) (he : keyAt ls i j = keyAt ls i' j') : i = i' ∧ j = j' := by
  obtain ⟨h1, h2⟩ := up_of h
  unfold keyAt rowAt at he
  rw [getD_get _ _ _ hj, getD_get _ _ _ hj'] at he
  rcases Nat.lt_trichotomy i i' with hlt | heq | hgt
  · exfalso
    have := (List.pairwise_iff_getElem.1 h2) i i' hi hi' hlt ((ls.getD i [])[j]) (by rw [← getD_get ls [] i hi]; exact List.getElem_mem hj) ((ls.getD i' [])[j']) (by rw [← getD_get ls [] i' hi']; exact List.getElem_mem hj')
    omega
  · subst heq
    refine ⟨rfl, ?_⟩
    have hp := h1 (ls.getD i []) (by rw [getD_get ls [] i hi]; exact List.getElem_mem hi)
    rcases Nat.lt_trichotomy j j' with hl | he' | hg
    · have := (List.pairwise_iff_getElem.1 hp) j j' hj hj' hl; omega
    · exact he'
    · have := (List.pairwise_iff_getElem.1 hp) j' j hj' hj hg; omega
  · exfalso
    have := (List.pairwise_iff_getElem.1 h2) i' i hi' hi hgt ((ls.getD i' [])[j']) (by rw [← getD_get ls [] i' hi']; exact List.getElem_mem hj') ((ls.getD i [])[j]) (by rw [← getD_get ls [] i hi]; exact List.getElem_mem hj)
    omega
theorem key_fits {ls : List (List Row)} (h : leavesFault ls = 0) {i : Nat} (j : Nat) (hi : i < ls.length) : 0 ≤ keyAt ls i j ∧ keyAt ls i j ≤ 99 := by
  have := (allFit_of_page (good_leaf h i hi).2).1 j
  exact ⟨this.1, this.2.1⟩
/-- The row of a key. -/
def findR (ls : List (List Row)) (key : Int) : Option Row := ls.flatten.find? (fun r => r.k == key)
theorem find_some {ls : List (List Row)} {key : Int} {r : Row} (h : findR ls key = some r) : ∃ i j, i < ls.length ∧ j < (ls.getD i []).length ∧ rowAt ls i j = r ∧ r.k = key := by
  have hk := List.find?_some h
  have hm := List.mem_of_find?_eq_some h
  obtain ⟨l, hl, hr⟩ := List.mem_flatten.1 hm
  obtain ⟨i, hi, rfl⟩ := List.getElem_of_mem hl
  obtain ⟨j, hj, rfl⟩ := List.getElem_of_mem hr
  refine ⟨i, j, hi, by rw [getD_get ls [] i hi]; exact hj, ?_, by simpa using hk⟩
  unfold rowAt
  rw [getD_get ls [] i hi, getD_get _ _ _ hj]
theorem find_none {ls : List (List Row)} {key : Int} (h : findR ls key = none) : ∀ i j, i < ls.length → j < (ls.getD i []).length → keyAt ls i j ≠ key := by
  intro i j hi hj he
  have := List.find?_eq_none.1 h (rowAt ls i j) (by
    refine List.mem_flatten.2 ⟨ls.getD i [], ?_, ?_⟩
    · rw [getD_get ls [] i hi]; exact List.getElem_mem hi
    · unfold rowAt; rw [getD_get _ _ _ hj]; exact List.getElem_mem hj)
  unfold keyAt at he
  simp [he] at this
end Go.Proofs.Ytjagobcogkdfhaa.Ch


/- A row dropped from leaves: plain. -/
namespace Go.Proofs.Ytjagobcogkdfhaa.Ch
def notK (key : Int) (r : Row) : Bool := r.k != key
def full (l : List Row) : Bool := decide (0 < l.length)
def drop (ls : List (List Row)) (key : Int) : List (List Row) := (ls.map (List.filter (notK key))).filter full
/-- What DropRow answers. -/
def dropR (ls : List (List Row)) (key : Int) : Int × List (List Row) :=
  if asked ls key != 0 then (asked ls key, []) else match findR ls key with
    | none => (4, [])
    | some _ => (0, drop ls key)
theorem dropR_code {ls : List (List Row)} {key : Int} (h : (asked ls key != 0) = true) : dropR ls key = (asked ls key, []) := by rw [dropR, if_pos h]
theorem dropR_none {ls : List (List Row)} {key : Int} (h : (asked ls key != 0) = false) (hf : findR ls key = none) : dropR ls key = (4, []) := by
  rw [dropR, if_neg (by rw [h]; exact Bool.false_ne_true), hf]
theorem dropR_some {ls : List (List Row)} {key : Int} {r : Row} (h : (asked ls key != 0) = false) (hf : findR ls key = some r) : dropR ls key = (0, drop ls key) := by
  rw [dropR, if_neg (by rw [h]; exact Bool.false_ne_true), hf]
theorem filter_all {α : Type} {p : α → Bool} {l : List α} (h : ∀ x ∈ l, p x = true) : l.filter p = l := List.filter_eq_self.2 h
theorem split_at {α : Type} (l : List α) (d : α) (i : Nat) (h : i < l.length) : l = l.take i ++ l.getD i d :: l.drop (i + 1) := by
  rw [getD_get l d i h, ← List.drop_eq_getElem_cons h, List.take_append_drop]
theorem drop_leaf {l : List Row} (hp : l.Pairwise (fun a b => a.k < b.k)) {j : Nat} (hj : j < l.length) {key : Int} (hk : (l.getD j Row.zero).k = key) : l.filter (notK key) = l.take j ++ l.drop (j + 1) := by
  have hs := split_at l Row.zero j hj
  have hp' := hp
  rw [hs] at hp'
  rw [List.pairwise_append] at hp'
  obtain ⟨_, h2, h3⟩ := hp'
  have h4 := (List.pairwise_cons.1 h2).1
  conv => lhs; rw [hs]
  rw [List.filter_append, filter_all (l := l.take j), List.filter_cons, if_neg (by unfold notK; rw [hk]; simp), filter_all (l := l.drop (j + 1))]
  · intro x hx
    have := h4 x hx
    simp [notK]
    omega
  · intro x hx
    have := h3 x hx _ (List.mem_cons_self)
    simp [notK]
    omega
theorem drop_other {l : List Row} {key : Int} (h : ∀ r ∈ l, r.k ≠ key) : l.filter (notK key) = l := filter_all fun r hr => by simp [notK, h r hr]
/-- The leaf of the key is cut; without rows it is gone; the others are as they were. -/
theorem drop_is {ls : List (List Row)} (hg : leavesFault ls = 0) {i j : Nat} (hi : i < ls.length) (hj : j < (ls.getD i []).length) {key : Int} (hk : keyAt ls i j = key) :
    drop ls key = ls.take i ++ (if (ls.getD i []).length = 1 then [] else [(ls.getD i []).take j ++ (ls.getD i []).drop (j + 1)]) ++ ls.drop (i + 1) := by
  have hs := split_at ls [] i hi
  have hup := up_of hg
  have hl := drop_leaf (hup.1 (ls.getD i []) (by rw [getD_get ls [] i hi]; exact List.getElem_mem hi)) hj (key := key) hk
  have far : ∀ i', i' < ls.length → i' ≠ i → ∀ r ∈ ls.getD i' [], r.k ≠ key := by
    intro i' hi' hne r hr he
    obtain ⟨j', hj', rfl⟩ := List.getElem_of_mem hr
    have : keyAt ls i' j' = keyAt ls i j := by
      unfold keyAt rowAt
      rw [getD_get _ _ _ hj', he]
      exact hk.symm
    exact hne (keys_apart hg hi' hj' hi hj this).1
  have other : ∀ l, l ∈ ls.take i ∨ l ∈ ls.drop (i + 1) → l.filter (notK key) = l ∧ full l = true := by
    intro l hl
    have hex : ∃ i', i' < ls.length ∧ i' ≠ i ∧ l = ls.getD i' [] := by
      rcases hl with hl | hl
      · obtain ⟨i', hi', rfl⟩ := List.getElem_of_mem hl
        have h1 : i' < i := by simp at hi'; omega
        exact ⟨i', by omega, by omega, by rw [getD_get _ _ _ (by omega)]; simp⟩
      · obtain ⟨i', hi', rfl⟩ := List.getElem_of_mem hl
        have h1 : i + 1 + i' < ls.length := by simp at hi'; omega
        exact ⟨i + 1 + i', h1, by omega, by rw [getD_get _ _ _ h1]; simp⟩
    obtain ⟨i', hi', hne, rfl⟩ := hex
    refine ⟨drop_other (far i' hi' hne), ?_⟩
    have := (good_leaf hg i' hi').1
    unfold full
    rw [decide_eq_true_eq]
    omega
  have m1 : (ls.take i).map (List.filter (notK key)) = ls.take i := by
    rw [List.map_congr_left (g := id) (fun l hl => (other l (.inl hl)).1), List.map_id]
  have m2 : (ls.drop (i + 1)).map (List.filter (notK key)) = ls.drop (i + 1) := by
    rw [List.map_congr_left (g := id) (fun l hl => (other l (.inr hl)).1), List.map_id]
  have f1 : (ls.take i).filter full = ls.take i := filter_all fun l hl => (other l (.inl hl)).2
  have f2 : (ls.drop (i + 1)).filter full = ls.drop (i + 1) := filter_all fun l hl => (other l (.inr hl)).2
  unfold drop
  conv => lhs; rw [hs]
  rw [List.map_append, List.map_cons, m1, m2, hl, List.filter_append, List.filter_cons, f1, f2]
  generalize ls.getD i [] = l at *
  by_cases h1 : l.length = 1
  · have : full (l.take j ++ l.drop (j + 1)) = false := by simp [full]; omega
    rw [this, if_pos h1]
    simp
  · have : full (l.take j ++ l.drop (j + 1)) = true := by simp [full]; omega
    rw [this, if_neg h1]
    simp
theorem drop_take (ls : List (List Row)) (key : Int) (k : Nat) (h : k < ls.length) : drop (ls.take (k + 1)) key = drop (ls.take k) key ++ (if full ((ls.getD k []).filter (notK key)) then [(ls.getD k []).filter (notK key)] else []) := by
  rw [take_snoc ls [] k h]
  unfold drop
  rw [List.map_append, List.filter_append]
  simp only [List.map_cons, List.map_nil, List.filter_cons, List.filter_nil]
end Go.Proofs.Ytjagobcogkdfhaa.Ch


/- A row put into leaves: plain. -/
namespace Go.Proofs.Ytjagobcogkdfhaa.Ch
/-- A row put into rows: ahead of the first that isn't lower; a row of the same key is gone. -/
def into (r : Row) : List Row → List Row
  | [] => [r]
  | x :: l => if x.k < r.k then x :: into r l else r :: (x :: l).filter (notK r.k)
/-- How many rows at the front are lower. -/
def insAt (key : Int) : List Row → Nat
  | [] => 0
  | x :: l => if x.k < key then insAt key l + 1 else 0
theorem insAt_le (key : Int) (l : List Row) : insAt key l ≤ l.length := by
  induction l with
  | nil => exact Nat.le_refl _
  | cons x l ih => simp only [insAt]; split <;> simp <;> omega
theorem insAt_low (key : Int) (l : List Row) : ∀ j, j < insAt key l → (l.getD j Row.zero).k < key := by
  induction l with
  | nil => intro j hj; simp [insAt] at hj
  | cons x l ih =>
    intro j hj
    simp only [insAt] at hj
    split at hj
    · cases j with
      | zero => simpa using ‹x.k < key›
      | succ j => simpa using ih j (by omega)
    · omega
theorem insAt_stop (key : Int) (l : List Row) (h : insAt key l < l.length) : ¬ (l.getD (insAt key l) Row.zero).k < key := by
  induction l with
  | nil => simp [insAt] at h
  | cons x l ih =>
    simp only [insAt] at h ⊢
    split
    · rename_i hx
      rw [if_pos hx] at h
      have := ih (by simpa using h)
      simpa using this
    · simpa using ‹¬ x.k < key›
/-- The place is the first that isn't lower. -/
theorem insAt_eq {key : Int} {l : List Row} {t : Nat} (ht : t ≤ l.length) (hlow : ∀ j, j < t → (l.getD j Row.zero).k < key) (hs : t < l.length → ¬ (l.getD t Row.zero).k < key) : insAt key l = t := by
  rcases Nat.lt_trichotomy (insAt key l) t with h | h | h
  · exact absurd (hlow _ h) (insAt_stop key l (by omega))
  · exact h
  · have := insAt_le key l
    exact absurd (insAt_low key l t h) (hs (by omega))
/-- No row of that key: it is put in between. -/
theorem into_new {r : Row} {l : List Row} (hn : ∀ x ∈ l, x.k ≠ r.k) : into r l = l.take (insAt r.k l) ++ [r] ++ l.drop (insAt r.k l) := by
  induction l with
  | nil => rfl
  | cons x l ih =>
    simp only [into, insAt]
    split
    · rw [ih (fun y hy => hn y (List.mem_cons_of_mem _ hy))]
      simp
    · rw [filter_all (fun y hy => by simp [notK, hn y hy])]
      simp
/-- There is a row of that key: it is put in its place. -/
theorem into_old {r : Row} {l : List Row} (hp : l.Pairwise (fun a b => a.k < b.k)) {j : Nat} (hj : j < l.length) (hk : (l.getD j Row.zero).k = r.k) : into r l = l.set j r := by
  induction l generalizing j with
  | nil => simp at hj
  | cons x l ih =>
    obtain ⟨h1, h2⟩ := List.pairwise_cons.1 hp
    cases j with
    | zero =>
      have hx : x.k = r.k := by simpa using hk
      have h3 : ∀ y ∈ l, notK r.k y = true := fun y hy => by have := h1 y hy; simp [notK]; omega
      simp [into, hx, notK, filter_all h3]
    | succ j =>
      have hj' : j < l.length := by simpa using hj
      have hk' : (l.getD j Row.zero).k = r.k := by simpa using hk
      have hx : x.k < r.k := by
        have := h1 _ (by rw [getD_get l Row.zero j hj'] ; exact List.getElem_mem hj' : l.getD j Row.zero ∈ l)
        omega
      simp only [into, if_pos hx, List.set_cons_succ, List.cons.injEq, true_and]
      exact ih h2 hj' hk'
/-- How far the loop is: nothing put yet. -/
theorem into_low {r : Row} {p q : List Row} (h : ∀ x ∈ p, x.k < r.k) : into r (p ++ q) = p ++ into r q := by
  induction p with
  | nil => rfl
  | cons x p ih =>
    simp only [List.cons_append, into, if_pos (h x List.mem_cons_self), List.cons.injEq, true_and]
    exact ih (fun y hy => h y (List.mem_cons_of_mem _ hy))
theorem into_done {r : Row} {p q : List Row} (h : ∃ x ∈ p, ¬ x.k < r.k) : into r (p ++ q) = into r p ++ q.filter (notK r.k) := by
  induction p with
  | nil => obtain ⟨x, hx, _⟩ := h; simp at hx
  | cons x p ih =>
    by_cases hx : x.k < r.k
    · simp only [List.cons_append, into, if_pos hx, List.cons.injEq, true_and]
      apply ih
      obtain ⟨y, hy, hy'⟩ := h
      rcases List.mem_cons.1 hy with rfl | hy
      · exact absurd hx hy'
      · exact ⟨y, hy, hy'⟩
    · simp only [List.cons_append, into, if_neg hx]
      rw [← List.cons_append, List.filter_append]
theorem take_next {l : List Row} {t : Nat} (h : t < l.length) : l.take (t + 1) = l.take t ++ [l.getD t Row.zero] := by
  rw [List.take_add_one, List.getD]
  simp [h]
/-- How far the loop of the put is: d: the row is put; S: what there is. -/
def InSt (r : Row) (l : List Row) (t : Nat) (d : Bool) (S : List Row) : Prop :=
  (d = false ∧ S = l.take t ∧ ∀ x ∈ l.take t, x.k < r.k) ∨ (d = true ∧ S = into r (l.take t) ∧ ∃ x ∈ l.take t, ¬ x.k < r.k)
theorem InSt.start (r : Row) (l : List Row) : InSt r l 0 false [] := .inl ⟨rfl, rfl, by simp⟩
theorem InSt.low {r : Row} {l : List Row} {t : Nat} {S : List Row} (h : InSt r l t false S) (ht : t < l.length) (hx : (l.getD t Row.zero).k < r.k) : InSt r l (t + 1) false (S ++ [l.getD t Row.zero]) := by
  rcases h with ⟨_, rfl, h⟩ | ⟨h, _⟩
  · refine .inl ⟨rfl, (take_next ht).symm, fun x hm => ?_⟩
    rw [take_next ht] at hm
    rcases List.mem_append.1 hm with hm | hm
    · exact h x hm
    · simp only [List.mem_singleton] at hm; subst hm; exact hx
  · cases h
theorem InSt.same {r : Row} {l : List Row} {t : Nat} {S : List Row} (h : InSt r l t false S) (ht : t < l.length) (hx : (l.getD t Row.zero).k = r.k) : InSt r l (t + 1) true (S ++ [r]) := by
  rcases h with ⟨_, rfl, h⟩ | ⟨h, _⟩
  · refine .inr ⟨rfl, ?_, l.getD t Row.zero, ?_, by omega⟩
    · rw [take_next ht, into_low h]
      generalize l.getD t Row.zero = x at hx
      simp [into, hx, notK]
    · rw [take_next ht]; simp
  · cases h
theorem InSt.high {r : Row} {l : List Row} {t : Nat} {S : List Row} (h : InSt r l t false S) (ht : t < l.length) (hx : r.k < (l.getD t Row.zero).k) : InSt r l (t + 1) true (S ++ [r] ++ [l.getD t Row.zero]) := by
  rcases h with ⟨_, rfl, h⟩ | ⟨h, _⟩
  · have h1 : ¬ (l.getD t Row.zero).k < r.k := by omega
    have h2 : notK r.k (l.getD t Row.zero) = true := by unfold notK; simp only [bne_iff_ne, ne_eq]; omega
    refine .inr ⟨rfl, ?_, l.getD t Row.zero, ?_, h1⟩
    · rw [take_next ht, into_low h, into, if_neg h1, List.filter_cons, if_pos h2]
      simp
    · rw [take_next ht]; simp
  · cases h
theorem InSt.on {r : Row} {l : List Row} {t : Nat} {S : List Row} (h : InSt r l t true S) (ht : t < l.length) (hx : (l.getD t Row.zero).k ≠ r.k) : InSt r l (t + 1) true (S ++ [l.getD t Row.zero]) := by
  rcases h with ⟨h, _⟩ | ⟨_, rfl, h⟩
  · cases h
  · refine .inr ⟨rfl, ?_, ?_⟩
    · rw [take_next ht, into_done h]
      generalize l.getD t Row.zero = x at hx
      have : notK r.k x = true := by unfold notK; simpa using hx
      rw [List.filter_cons, if_pos this, List.filter_nil]
    · obtain ⟨x, hm, hx'⟩ := h
      exact ⟨x, by rw [take_next ht]; exact List.mem_append_left _ hm, hx'⟩
theorem InSt.over {r : Row} {l : List Row} {t : Nat} {S : List Row} (h : InSt r l t true S) (ht : t < l.length) (hx : (l.getD t Row.zero).k = r.k) : InSt r l (t + 1) true S := by
  rcases h with ⟨h, _⟩ | ⟨_, rfl, h⟩
  · cases h
  · refine .inr ⟨rfl, ?_, ?_⟩
    · rw [take_next ht, into_done h]
      generalize l.getD t Row.zero = x at hx
      simp [notK, hx]
    · obtain ⟨x, hm, hx'⟩ := h
      exact ⟨x, by rw [take_next ht]; exact List.mem_append_left _ hm, hx'⟩
theorem InSt.endNo {r : Row} {l : List Row} {t : Nat} {S : List Row} (h : InSt r l t false S) (ht : l.length ≤ t) : into r l = S ++ [r] := by
  rcases h with ⟨_, rfl, h⟩ | ⟨h, _⟩
  · rw [List.take_of_length_le ht] at h ⊢
    have := into_low (q := []) h
    rw [List.append_nil] at this
    exact this
  · cases h
theorem InSt.endYes {r : Row} {l : List Row} {t : Nat} {S : List Row} (h : InSt r l t true S) (ht : l.length ≤ t) : into r l = S := by
  rcases h with ⟨h, _⟩ | ⟨_, rfl, h⟩
  · cases h
  · rw [List.take_of_length_le ht]
/-- The leaf of the row, in one or in two. -/
def halves (l : List Row) : List (List Row) := if l.length ≤ 4 then [l] else [l.take (l.length / 2), l.drop (l.length / 2)]
def put (ls : List (List Row)) (r : Row) : List (List Row) :=
  if ls.length = 0 then [[r]] else ls.take (forAt ls r.k ls.length) ++ halves (into r (ls.getD (forAt ls r.k ls.length) [])) ++ ls.drop (forAt ls r.k ls.length + 1)
/-- What PutRow answers. -/
def putR (ls : List (List Row)) (r : Row) : Int × List (List Row) :=
  if leavesFault ls != 0 then (leavesFault ls, []) else if r.fault != 0 then (r.fault, []) else if 60 < (put ls r).length then (2, []) else (0, put ls r)
theorem forAt_is {ls : List (List Row)} {key : Int} {i : Nat} : ∀ n, i < n → firstK (ls.getD i []) ≤ key → (∀ k, i < k → k < n → ¬ firstK (ls.getD k []) ≤ key) → forAt ls key n = i := by
  intro n
  induction n with
  | zero => intro h; omega
  | succ n ih =>
    intro hi h1 h2
    by_cases h : i = n
    · subst h; exact forAt_yes h1
    · rw [forAt_no (h2 n (by omega) (by omega))]
      exact ih (by omega) h1 (fun k hk hk' => h2 k hk (by omega))
theorem firstK_get {l : List Row} (h : l.length ≠ 0) : firstK l = (l.getD 0 Row.zero).k := by
  cases l with
  | nil => simp at h
  | cons x l => simp [firstK]
/-- A key that is there lies in its leaf. -/
theorem forAt_found {ls : List (List Row)} (hg : leavesFault ls = 0) {i j : Nat} (hi : i < ls.length) (hj : j < (ls.getD i []).length) {key : Int} (hk : keyAt ls i j = key) : forAt ls key ls.length = i := by
  have hup := up_of hg
  have hm : ∀ k, k < ls.length → ls.getD k [] ∈ ls := fun k h => by rw [getD_get ls [] k h]; exact List.getElem_mem h
  have hr : (ls.getD i []).getD j Row.zero ∈ ls.getD i [] := by rw [getD_get _ _ j hj]; exact List.getElem_mem hj
  refine forAt_is _ hi ?_ (fun k hk1 hk2 => ?_)
  · have := pair_first (hup.1 _ (hm i hi)) _ hr
    unfold keyAt rowAt at hk
    omega
  · have hk0 := (good_leaf hg k hk2).1
    have hf : (ls.getD k []).getD 0 Row.zero ∈ ls.getD k [] := by rw [getD_get _ _ 0 (by omega)]; exact List.getElem_mem (by omega)
    have := List.pairwise_iff_getElem.1 hup.2 i k hi hk2 hk1 _ (by rw [← getD_get ls [] i hi]; exact hr) _ (by rw [← getD_get ls [] k hk2]; exact hf)
    rw [firstK_get hk0]
    unfold keyAt rowAt at hk
    omega
theorem put_nil {ls : List (List Row)} {r : Row} (h : ls.length = 0) : put ls r = [[r]] := if_pos h
/-- The row's key is there. -/
theorem put_old {ls : List (List Row)} (hg : leavesFault ls = 0) {i j : Nat} (hi : i < ls.length) (hj : j < (ls.getD i []).length) {r : Row} (hk : keyAt ls i j = r.k) : put ls r = ls.set i ((ls.getD i []).set j r) := by
  have hup := up_of hg
  have h4 := (allFit_of_page (good_leaf hg i hi).2).2
  rw [put, if_neg (by omega), forAt_found hg hi hj hk, into_old (hup.1 _ (by rw [getD_get ls [] i hi]; exact List.getElem_mem hi)) hj hk, halves, if_pos (by simpa using h4)]
  generalize (ls.getD i []).set j r = l'
  rw [List.set_eq_take_append_cons_drop, if_pos hi]
  simp
/-- It is not. -/
theorem put_new {ls : List (List Row)} {r : Row} {at_ : Nat} (h0 : ls.length ≠ 0) (hat : forAt ls r.k ls.length = at_) (hn : ∀ x ∈ ls.getD at_ [], x.k ≠ r.k) : put ls r = ls.take at_ ++ halves ((ls.getD at_ []).take (insAt r.k (ls.getD at_ [])) ++ [r] ++ (ls.getD at_ []).drop (insAt r.k (ls.getD at_ []))) ++ ls.drop (at_ + 1) := by
  rw [put, if_neg h0, hat, into_new hn]
end Go.Proofs.Ytjagobcogkdfhaa.Ch

