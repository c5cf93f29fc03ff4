
/- A row put into leaves: plain. -/
import Derived.Test.YtlpncikiaojmiaaDropM
namespace Go.Proofs.Ytlpncikiaojmiaa.Ch
/-- A row put into rows: ahead of the first that isn't lower; a row of the same key is gone. -/
def into (r : Row) : List Row → List Row
  | [] => [r]
  | x :: l => if x.k < r.k then x :: into r l else r :: (x :: l).filter (notK r.k)
/-- How many rows at the front are lower. -/
def insAt (key : Int) : List Row → Nat
  | [] => 0
  | x :: l => if x.k < key then insAt key l + 1 else 0
theorem insAt_le (key : Int) (l : List Row) : insAt key l ≤ l.length := by
  induction l with
  | nil => exact Nat.le_refl _
  | cons x l ih => simp only [insAt]; split <;> simp <;> omega
theorem insAt_low (key : Int) (l : List Row) : ∀ j, j < insAt key l → (l.getD j Row.zero).k < key := by
  induction l with
  | nil => intro j hj; simp [insAt] at hj
  | cons x l ih =>
    intro j hj
    simp only [insAt] at hj
    split at hj
    · cases j with
      | zero => simpa using ‹x.k < key›
      | succ j => simpa using ih j (by omega)
    · omega
theorem insAt_stop (key : Int) (l : List Row) (h : insAt key l < l.length) : ¬ (l.getD (insAt key l) Row.zero).k < key := by
  induction l with
  | nil => simp [insAt] at h
  | cons x l ih =>
    simp only [insAt] at h ⊢
    split
    · rename_i hx
      rw [if_pos hx] at h
      have := ih (by simpa using h)
      simpa using this
    · simpa using ‹¬ x.k < key›
/-- The place is the first that isn't lower. -/
theorem insAt_eq {key : Int} {l : List Row} {t : Nat} (ht : t ≤ l.length) (hlow : ∀ j, j < t → (l.getD j Row.zero).k < key) (hs : t < l.length → ¬ (l.getD t Row.zero).k < key) : insAt key l = t := by
  rcases Nat.lt_trichotomy (insAt key l) t with h | h | h
  · exact absurd (hlow _ h) (insAt_stop key l (by omega))
  · exact h
  · have := insAt_le key l
    exact absurd (insAt_low key l t h) (hs (by omega))
/-- No row of that key: it is put in between. -/
theorem into_new {r : Row} {l : List Row} (hn : ∀ x ∈ l, x.k ≠ r.k) : into r l = l.take (insAt r.k l) ++ [r] ++ l.drop (insAt r.k l) := by
  induction l with
  | nil => rfl
  | cons x l ih =>
    simp only [into, insAt]
    split
    · rw [ih (fun y hy => hn y (List.mem_cons_of_mem _ hy))]
      simp
    · rw [filter_all (fun y hy => by simp [notK, hn y hy])]
      simp
/-- There is a row of that key: it is put in its place. -/
theorem into_old {r : Row} {l : List Row} (hp : l.Pairwise (fun a b => a.k < b.k)) {j : Nat} (hj : j < l.length) (hk : (l.getD j Row.zero).k = r.k) : into r l = l.set j r := by
  induction l generalizing j with
  | nil => simp at hj
  | cons x l ih =>
    obtain ⟨h1, h2⟩ := List.pairwise_cons.1 hp
    cases j with
    | zero =>
      have hx : x.k = r.k := by simpa using hk
      have h3 : ∀ y ∈ l, notK r.k y = true := fun y hy => by have := h1 y hy; simp [notK]; omega
      simp [into, hx, notK, filter_all h3]
    | succ j =>
      have hj' : j < l.length := by simpa using hj
      have hk' : (l.getD j Row.zero).k = r.k := by simpa using hk
      have hx : x.k < r.k := by
        have := h1 _ (by rw [getD_get l Row.zero j hj'] ; exact List.getElem_mem hj' : l.getD j Row.zero ∈ l)
        omega
      simp only [into, if_pos hx, List.set_cons_succ, List.cons.injEq, true_and]
      exact ih h2 hj' hk'
/-- How far the loop is: nothing put yet. -/
theorem into_low {r : Row} {p q : List Row} (h : ∀ x ∈ p, x.k < r.k) : into r (p ++ q) = p ++ into r q := by
  induction p with
  | nil => rfl
  | cons x p ih =>
    simp only [List.cons_append, into, if_pos (h x List.mem_cons_self), List.cons.injEq, true_and]
    exact ih (fun y hy => h y (List.mem_cons_of_mem _ hy))
theorem into_done {r : Row} {p q : List Row} (h : ∃ x ∈ p, ¬ x.k < r.k) : into r (p ++ q) = into r p ++ q.filter (notK r.k) := by
  induction p with
  | nil => obtain ⟨x, hx, _⟩ := h; simp at hx
  | cons x p ih =>
    by_cases hx : x.k < r.k
    · simp only [List.cons_append, into, if_pos hx, List.cons.injEq, true_and]
      apply ih
      obtain ⟨y, hy, hy'⟩ := h
      rcases List.mem_cons.1 hy with rfl | hy
      · exact absurd hx hy'
      · exact ⟨y, hy, hy'⟩
    · simp only [List.cons_append, into, if_neg hx]
      rw [← List.cons_append, List.filter_append]
theorem take_next {l : List Row} {t : Nat} (h : t < l.length) : l.take (t + 1) = l.take t ++ [l.getD t Row.zero] := by
  rw [List.take_add_one, List.getD]
  simp [h]
/-- How far the loop of the put is: d: the row is put; S: what there is. -/
def InSt (r : Row) (l : List Row) (t : Nat) (d : Bool) (S : List Row) : Prop :=
  (d = false ∧ S = l.take t ∧ ∀ x ∈ l.take t, x.k < r.k) ∨ (d = true ∧ S = into r (l.take t) ∧ ∃ x ∈ l.take t, ¬ x.k < r.k)
theorem InSt.start (r : Row) (l : List Row) : InSt r l 0 false [] := .inl ⟨rfl, rfl, by simp⟩
theorem InSt.low {r : Row} {l : List Row} {t : Nat} {S : List Row} (h : InSt r l t false S) (ht : t < l.length) (hx : (l.getD t Row.zero).k < r.k) : InSt r l (t + 1) false (S ++ [l.getD t Row.zero]) := by
  rcases h with ⟨_, rfl, h⟩ | ⟨h, _⟩
  · refine .inl ⟨rfl, (take_next ht).symm, fun x hm => ?_⟩
    rw [take_next ht] at hm
    rcases List.mem_append.1 hm with hm | hm
    · exact h x hm
    · simp only [List.mem_singleton] at hm; subst hm; exact hx
  · cases h
theorem InSt.same {r : Row} {l : List Row} {t : Nat} {S : List Row} (h : InSt r l t false S) (ht : t < l.length) (hx : (l.getD t Row.zero).k = r.k) : InSt r l (t + 1) true (S ++ [r]) := by
  rcases h with ⟨_, rfl, h⟩ | ⟨h, _⟩
  · refine .inr ⟨rfl, ?_, l.getD t Row.zero, ?_, by omega⟩
    · rw [take_next ht, into_low h]
      generalize l.getD t Row.zero = x at hx
      simp [into, hx, notK]
    · rw [take_next ht]; simp
  · cases h
theorem InSt.high {r : Row} {l : List Row} {t : Nat} {S : List Row} (h : InSt r l t false S) (ht : t < l.length) (hx : r.k < (l.getD t Row.zero).k) : InSt r l (t + 1) true (S ++ [r] ++ [l.getD t Row.zero]) := by
  rcases h with ⟨_, rfl, h⟩ | ⟨h, _⟩
  · have h1 : ¬ (l.getD t Row.zero).k < r.k := by omega
    have h2 : notK r.k (l.getD t Row.zero) = true := by unfold notK; simp only [bne_iff_ne, ne_eq]; omega
    refine .inr ⟨rfl, ?_, l.getD t Row.zero, ?_, h1⟩
    · rw [take_next ht, into_low h, into, if_neg h1, List.filter_cons, if_pos h2]
      simp
    · rw [take_next ht]; simp
  · cases h
theorem InSt.on {r : Row} {l : List Row} {t : Nat} {S : List Row} (h : InSt r l t true S) (ht : t < l.length) (hx : (l.getD t Row.zero).k ≠ r.k) : InSt r l (t + 1) true (S ++ [l.getD t Row.zero]) := by
  rcases h with ⟨h, _⟩ | ⟨_, rfl, h⟩
  · cases h
  · refine .inr ⟨rfl, ?_, ?_⟩
    · rw [take_next ht, into_done h]
      generalize l.getD t Row.zero = x at hx
      have : notK r.k x = true := by unfold notK; simpa using hx
      rw [List.filter_cons, if_pos this, List.filter_nil]
    · obtain ⟨x, hm, hx'⟩ := h
      exact ⟨x, by rw [take_next ht]; exact List.mem_append_left _ hm, hx'⟩
theorem InSt.over {r : Row} {l : List Row} {t : Nat} {S : List Row} (h : InSt r l t true S) (ht : t < l.length) (hx : (l.getD t Row.zero).k = r.k) : InSt r l (t + 1) true S := by
  rcases h with ⟨h, _⟩ | ⟨_, rfl, h⟩
  · cases h
  · refine .inr ⟨rfl, ?_, ?_⟩
    · rw [take_next ht, into_done h]
      generalize l.getD t Row.zero = x at hx
      simp [notK, hx]
    · obtain ⟨x, hm, hx'⟩ := h
      exact ⟨x, by rw [take_next ht]; exact List.mem_append_left _ hm, hx'⟩
theorem InSt.endNo {r : Row} {l : List Row} {t : Nat} {S : List Row} (h : InSt r l t false S) (ht : l.length ≤ t) : into r l = S ++ [r] := by
  rcases h with ⟨_, rfl, h⟩ | ⟨h, _⟩
  · rw [List.take_of_length_le ht] at h ⊢
    have := into_low (q := []) h
    rw [List.append_nil] at this
    exact this
  · cases h
theorem InSt.endYes {r : Row} {l : List Row} {t : Nat} {S : List Row} (h : InSt r l t true S) (ht : l.length ≤ t) : into r l = S := by
  rcases h with ⟨h, _⟩ | ⟨_, rfl, h⟩
  · cases h
  · rw [List.take_of_length_le ht]
/-- The leaf of the row, in one or in two. -/
def halves (l : List Row) : List (List Row) := if l.length ≤ 4 then [l] else [l.take (l.length / 2), l.drop (l.length / 2)]
def put (ls : List (List Row)) (r : Row) : List (List Row) :=
  if ls.length = 0 then [[r]] else ls.take (forAt ls r.k ls.length) ++ halves (into r (ls.getD (forAt ls r.k ls.length) [])) ++ ls.drop (forAt ls r.k ls.length + 1)
/-- What PutRow answers. -/
def putR (ls : List (List Row)) (r : Row) : Int × List (List Row) :=
  if leavesFault ls != 0 then (leavesFault ls, []) else if r.fault != 0 then (r.fault, []) else if 60 < (put ls r).length then (2, []) else (0, put ls r)
theorem forAt_is {ls : List (List Row)} {key : Int} {i : Nat} : ∀ n, i < n → firstK (ls.getD i []) ≤ key → (∀ k, i < k → k < n → ¬ firstK (ls.getD k []) ≤ key) → forAt ls key n = i := by
  intro n
  induction n with
  | zero => intro h; omega
  | succ n ih =>
    intro hi h1 h2
    by_cases h : i = n
    · subst h; exact forAt_yes h1
    · rw [forAt_no (h2 n (by omega) (by omega))]
      exact ih (by omega) h1 (fun k hk hk' => h2 k hk (by omega))
theorem firstK_get {l : List Row} (h : l.length ≠ 0) : firstK l = (l.getD 0 Row.zero).k := by
  cases l with
  | nil => simp at h
  | cons x l => simp [firstK]
/-- A key that is there lies in its leaf. -/
theorem forAt_found {ls : List (List Row)} (hg : leavesFault ls = 0) {i j : Nat} (hi : i < ls.length) (hj : j < (ls.getD i []).length) {key : Int} (hk : keyAt ls i j = key) : forAt ls key ls.length = i := by
  have hup := up_of hg
  have hm : ∀ k, k < ls.length → ls.getD k [] ∈ ls := fun k h => by rw [getD_get ls [] k h]; exact List.getElem_mem h
  have hr : (ls.getD i []).getD j Row.zero ∈ ls.getD i [] := by rw [getD_get _ _ j hj]; exact List.getElem_mem hj
  refine forAt_is _ hi ?_ (fun k hk1 hk2 => ?_)
  · have := pair_first (hup.1 _ (hm i hi)) _ hr
    unfold keyAt rowAt at hk
    omega
  · have hk0 := (good_leaf hg k hk2).1
    have hf : (ls.getD k []).getD 0 Row.zero ∈ ls.getD k [] := by rw [getD_get _ _ 0 (by omega)]; exact List.getElem_mem (by omega)
    have := List.pairwise_iff_getElem.1 hup.2 i k hi hk2 hk1 _ (by rw [← getD_get ls [] i hi]; exact hr) _ (by rw [← getD_get ls [] k hk2]; exact hf)
    rw [firstK_get hk0]
    unfold keyAt rowAt at hk
    omega
theorem put_nil {ls : List (List Row)} {r : Row} (h : ls.length = 0) : put ls r = [[r]] := if_pos h
/-- The row's key is there. -/
theorem put_old {ls : List (List Row)} (hg : leavesFault ls = 0) {i j : Nat} (hi : i < ls.length) (hj : j < (ls.getD i []).length) {r : Row} (hk : keyAt ls i j = r.k) : put ls r = ls.set i ((ls.getD i []).set j r) := by
  have hup := up_of hg
  have h4 := (allFit_of_page (good_leaf hg i hi).2).2
  rw [put, if_neg (by omega), forAt_found hg hi hj hk, into_old (hup.1 _ (by rw [getD_get ls [] i hi]; exact List.getElem_mem hi)) hj hk, halves, if_pos (by simpa using h4)]
  generalize (ls.getD i []).set j r = l'
  rw [List.set_eq_take_append_cons_drop, if_pos hi]
  simp
/-- It is not. -/
theorem put_new {ls : List (List Row)} {r : Row} {at_ : Nat} (h0 : ls.length ≠ 0) (hat : forAt ls r.k ls.length = at_) (hn : ∀ x ∈ ls.getD at_ [], x.k ≠ r.k) : put ls r = ls.take at_ ++ halves ((ls.getD at_ []).take (insAt r.k (ls.getD at_ [])) ++ [r] ++ (ls.getD at_ []).drop (insAt r.k (ls.getD at_ []))) ++ ls.drop (at_ + 1) := by
  rw [put, if_neg h0, hat, into_new hn]
end Go.Proofs.Ytlpncikiaojmiaa.Ch
