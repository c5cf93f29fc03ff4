
/- DropRow of the model and of the program. -/
import Derived.Test.YtjjbjdjkcckgmaaDropS
import Derived.Test.YtjjbjdjkcckgmaaDelW
import Derived.Test.YtjjbjdjkcckgmaaFindI
import Derived.Test.YtjjbjdjkcckgmaaResL
import Derived.Deep.Cut
namespace Go.Proofs.Ytjjbjdjkcckgmaa
open Go.RowKit Go.Maps

theorem OwnLv.nil (w : World) (B : Nat) : OwnLv w B (.slice none 0 0) 0 [] := ⟨rfl, [], World.ownsRow_nil _ _ _ _, fun i hi => absurd hi (by omega), fun i j x y g _ hx => by simp at hx, fun i x g hx => by simp at hx⟩
theorem owns_set {w : World} {base : Nat} {e : TypeId} {size : Nat} {v : Value} {n : Nat} {xs : List Value} (h : w.ownsRow base e size v n xs) {p o : Nat} (hne : ∀ g, v.ownBlock = some g → g ≠ p) (u : Value) : (w.setCell ⟨p, o, none⟩ u).ownsRow base e size v n xs := by
  refine ⟨h.1, ?_⟩
  rcases h.2 with h' | ⟨g, cap, cur, hv, hb, hh, h1, h2, h3, h4⟩
  · exact .inl h'
  · refine .inr ⟨g, cap, cur, hv, hb, ?_, h1, h2, h3, h4⟩
    rw [Below.heap_setCell _ _ _ _ (hne g (by rw [hv]; rfl))]; exact hh
theorem OwnLv.box {w : World} {B n : Nat} {v : Value} {ls : List (List Ch.Row)} (h : OwnLv w B v n ls) {p o : Nat} (hp : p < B) (u : Value) : OwnLv (w.setCell ⟨p, o, none⟩ u) B v n ls := by
  obtain ⟨hl, vs, ho, hi, hd, hd'⟩ := h
  refine ⟨hl, vs, owns_set ho (fun g hg => by have := owns_lt ho g hg; omega) u, fun i hlt => ?_, hd, hd'⟩
  obtain ⟨x, h1, h2⟩ := hi i hlt
  exact ⟨x, h1, owns_set h2 (fun g hg => by have := owns_lt h2 g hg; omega) u⟩

/-- One list is written and put back, cut in its own block. -/
theorem OwnV.cut {w w' : World} {B g n cap k : Nat} {vs : List Value} {ls : List (List Ch.Row)} {x x' : Value} {l' : List Ch.Row} (h : OwnV w B (.slice (some ⟨g, 0, none⟩) n cap) n vs ls) (hk : k < n) (hx : vs[k]? = some x) (hg : w.grownBy w' x.ownBlock) (hb : x'.ownBlock = x.ownBlock)
    (ho' : w'.ownsRow B 49 3 x' l'.length (rcells l')) : OwnV (w'.setCell ⟨g, k, none⟩ x') B (.slice (some ⟨g, 0, none⟩) n cap) n (vs.set k x') (ls.set k l') := by
  obtain ⟨hl, ho, hi, hd, hd'⟩ := h
  have hvl : vs.length = n := by have := ho.1; omega
  have ho1 := owns_grown ho hg (fun g' hg' e => hd' k x g' hx hg' e)
  have hst := ho1.stored k x'
  have get : ∀ (i : Nat) (y : Value), (vs.set k x')[i]? = some y → ∃ y0, vs[i]? = some y0 ∧ y.ownBlock = y0.ownBlock := by
    intro i y hy
    by_cases hik : k = i
    · subst hik
      rw [List.getElem?_set_self (by omega)] at hy
      cases hy
      exact ⟨x, hx, hb⟩
    · rw [List.getElem?_set_ne hik] at hy
      exact ⟨y, hy, rfl⟩
  refine ⟨by simpa using hl, hst.1, fun i hlt => ?_, ?_, ?_⟩
  · by_cases hik : k = i
    · subst hik
      refine ⟨x', by simp [hvl, hk], ?_⟩
      have e : (ls.set k l').getD k [] = l' := by simp [List.getD, hl, hk]
      rw [e]
      refine owns_grown ho' hst.2 fun g' hg' he => ?_
      rw [hb] at hg'
      simp at he
      subst he
      exact hd' k x _ hx rfl hg'
    · obtain ⟨y, h1, h2⟩ := hi i hlt
      refine ⟨y, by rw [List.getElem?_set_ne hik]; exact h1, ?_⟩
      have e : (ls.set k l').getD i [] = ls.getD i [] := by simp [List.getD, hik]
      rw [e]
      refine owns_grown (owns_grown h2 hg fun g' hg' e => ?_) hst.2 fun g' hg' he => ?_
      · rcases Nat.lt_or_gt_of_ne hik with hlt' | hgt
        · exact hd k i x y g' hlt' hx h1 e hg'
        · exact hd i k y x g' hgt h1 hx hg' e
      · simp at he
        subst he
        exact hd' i y _ h1 rfl hg'
  · intro i j y z g' hij hy hz hyg
    obtain ⟨y0, hy0, ey⟩ := get i y hy
    obtain ⟨z0, hz0, ez⟩ := get j z hz
    rw [ez]
    exact hd i j y0 z0 g' hij hy0 hz0 (ey ▸ hyg)
  · intro i y g' hy hv
    obtain ⟨y0, hy0, ey⟩ := get i y hy
    rw [ey]
    exact hd' i y0 g' hy0 hv

/-- A leaf is taken out of the list of leaves. -/
theorem OwnV.out {w w' : World} {B g n cap k r : Nat} {xs zs : List Value} {y : Value} {ls : List (List Ch.Row)} (h : OwnV w B (.slice (some ⟨g, 0, none⟩) n cap) n (xs ++ [y] ++ zs) ls) (hn : n = k + 1 + r) (hx : xs.length = k) (hg : w.grownBy w' (some g))
    (ho' : w'.ownsRow B 65 1 (.slice (some ⟨g, 0, none⟩) (k + r) cap) (k + r) (xs ++ zs)) : OwnLv w' B (.slice (some ⟨g, 0, none⟩) (k + r) cap) (k + r) (ls.take k ++ ls.drop (k + 1)) := by
  obtain ⟨hl, ho, hi, hd, hd'⟩ := h
  have hvl : (xs ++ [y] ++ zs).length = n := by have := ho.1; omega
  simp only [List.length_append, List.length_cons, List.length_nil] at hvl
  have up : ∀ i, (xs ++ zs)[i]? = (xs ++ [y] ++ zs)[if i < k then i else i + 1]? := by
    intro i
    by_cases hik : i < k
    · rw [if_pos hik, List.getElem?_append_left (by omega), List.append_assoc, List.getElem?_append_left (by omega)]
    · rw [if_neg hik, List.getElem?_append_right (by omega), List.getElem?_append_right (by simp; omega)]
      rw [show i + 1 - (xs ++ [y]).length = i - xs.length by simp]
  have upl : ∀ i, (ls.take k ++ ls.drop (k + 1)).getD i [] = ls.getD (if i < k then i else i + 1) [] := by
    intro i
    by_cases hik : i < k
    · rw [if_pos hik]
      simp only [List.getD]
      rw [List.getElem?_append_left (by simp; omega)]
      simp [hik]
    · rw [if_neg hik]
      simp only [List.getD]
      rw [List.getElem?_append_right (by simp; omega)]
      simp only [List.getElem?_drop, List.length_take]
      congr 2
      omega
  refine ⟨by simp; omega, xs ++ zs, ho', fun i hlt => ?_, ?_, ?_⟩
  · obtain ⟨x, h1, h2⟩ := hi (if i < k then i else i + 1) (by split <;> omega)
    refine ⟨x, by rw [up]; exact h1, ?_⟩
    rw [upl]
    refine owns_grown h2 hg fun g' hg' he => ?_
    simp at he
    subst he
    exact hd' _ x _ h1 rfl hg'
  · intro i j x z g' hij hx' hz'
    rw [up] at hx' hz'
    exact hd _ _ x z g' (by split <;> split <;> omega) hx' hz'
  · intro i x g' hx' hv
    rw [up] at hx'
    simp [Value.ownBlock] at hv
    subst hv
    exact hd' _ x _ hx' rfl

theorem rcells_split (l : List Ch.Row) (j : Nat) (h : j < l.length) : rcells l = rcells (l.take j) ++ rcells [l.getD j Ch.Row.zero] ++ rcells (l.drop (j + 1)) := by
  rw [← rcells_append, ← rcells_append]
  congr 1
  conv => lhs; rw [Ch.split_at l Ch.Row.zero j h]
  simp
theorem inner_one {w : World} {B n : Nat} {v : Value} {vs : List Value} {ls : List (List Ch.Row)} (h : OwnV w B v n vs ls) : ∀ u ∈ vs, u.oneCell' = true := by
  intro u hu
  obtain ⟨k, hk, rfl⟩ := List.getElem_of_mem hu
  obtain ⟨hl, ho, hi, _⟩ := h
  have hvl : vs.length = n := by have := ho.1; omega
  obtain ⟨x, h1, h2⟩ := hi k (by omega)
  obtain ⟨ai, ci, rfl⟩ := owns_shape h2
  rw [List.getElem?_eq_getElem hk] at h1
  simp only [Option.some.injEq] at h1
  rw [h1]; rfl

end Go.Proofs.Ytjjbjdjkcckgmaa
