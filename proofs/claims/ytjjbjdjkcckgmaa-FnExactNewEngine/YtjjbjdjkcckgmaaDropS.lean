
/- DropRow of the model. -/
import Derived.Test.YtjjbjdjkcckgmaaDropM
import Derived.Test.YtjjbjdjkcckgmaaFindW
import Derived.Test.YtjjbjdjkcckgmaaCopyW
namespace Go.Proofs.Ytjjbjdjkcckgmaa
open Go.RowKit Go.Maps

/-- A leaf is appended: its rows are newer than all else. -/
theorem OwnLv.snoc {w0 w1 w2 : World} {B n m : Nat} {v v' x : Value} {vs : List Value} {ls : List (List Ch.Row)} {l : List Ch.Row} {o : Obj} (h : OwnV w0 B v n vs ls) (hb : Below w0.heap.size w0 w1)
    (hx : w1.ownsRow w0.heap.size 49 3 x l.length (rcells l)) (hB : B ≤ w0.heap.size) (hm : m = n + 1)
    (h2 : w2.ownsRow B 65 1 v' m (vs ++ [x])) (hg : (w1.alloc o).grownBy w2 v.ownBlock) (hat : ∀ g, v'.ownBlock = some g → v.ownBlock = some g ∨ (w1.alloc o).heap.size ≤ g) : OwnLv w2 B v' m (ls ++ [l]) := by
  subst hm
  have hlt := h.lt
  obtain ⟨hl, ho, hi, hd, hd'⟩ := h
  have hvl : vs.length = n := by have := ho.1; omega
  have ba : Below w1.heap.size w1 (w1.alloc o) := (Below.refl _ _).alloc (Nat.le_refl _) _
  have hsz := hb.size
  have Lx := owns_lt hx
  have Lv := owns_lt ho
  have hin : ∀ (i : Nat) (y : Value), vs[i]? = some y → i < n := by
    intro i y hy
    rcases Nat.lt_or_ge i n with h | h
    · exact h
    · rw [List.getElem?_eq_none (by omega)] at hy; cases hy
  have split : ∀ (i : Nat) (y : Value), (vs ++ [x])[i]? = some y → (i < n ∧ vs[i]? = some y) ∨ (i = n ∧ y = x) := by
    intro i y hy
    rcases Nat.lt_or_ge i n with h | h
    · rw [List.getElem?_append_left (by omega)] at hy; exact .inl ⟨h, hy⟩
    · rw [List.getElem?_append_right (by omega)] at hy
      by_cases h0 : i - vs.length = 0
      · rw [h0] at hy; simp at hy; exact .inr ⟨by omega, hy.symm⟩
      · rw [List.getElem?_eq_none (by simp; omega)] at hy; cases hy
  refine ⟨by simp [hl], vs ++ [x], h2, fun i hlt' => ?_, ?_, ?_⟩
  · by_cases hin' : i = n
    · subst hin'
      refine ⟨x, by rw [List.getElem?_append_right (by omega)]; simp [hvl], ?_⟩
      have e : (ls ++ [l]).getD i [] = l := by simp [List.getD, hl]
      rw [e]
      refine owns_base (owns_grown (owns_below hx ba) hg fun g hg' he => ?_) hB
      have := Lx g hg'
      have := Lv g he
      omega
    · obtain ⟨y, h1, h3⟩ := hi i (by omega)
      refine ⟨y, by rw [List.getElem?_append_left (by omega)]; exact h1, ?_⟩
      have e : (ls ++ [l]).getD i [] = ls.getD i [] := by simp [List.getD, List.getElem?_append_left (show i < ls.length by omega)]
      rw [e]
      refine owns_grown (owns_below (owns_below h3 hb) ba) hg fun g hg' he => ?_
      exact hd' i y g h1 he hg'
  · intro i j y z g hij hy hz hyg hzg
    rcases split i y hy with ⟨hi1, hy'⟩ | ⟨hi1, rfl⟩
    · rcases split j z hz with ⟨hj1, hz'⟩ | ⟨hj1, rfl⟩
      · exact hd i j y z g hij hy' hz' hyg hzg
      · have := hlt i y g hy' hyg
        have := Lx g hzg
        omega
    · rcases split j z hz with ⟨hj1, hz'⟩ | ⟨hj1, rfl⟩ <;> omega
  · intro i y g hy hvg hyg
    have hv' := hat g hvg
    simp only [World.alloc, Array.size_push] at hv'
    rcases split i y hy with ⟨hi1, hy'⟩ | ⟨hi1, rfl⟩
    · rcases hv' with h3 | h3
      · exact hd' i y g hy' h3 hyg
      · have := hlt i y g hy' hyg
        omega
    · have := Lx g hyg
      rcases hv' with h3 | h3
      · have := Lv g h3
        omega
      · omega

theorem one_leaf {w : World} {x : Value} {t : TypeId} {H : Nat} (hH : H = w.heap.size) : CellsAt (w.alloc (.cells #[x] t)) (some ⟨H, 0, none⟩) 1 [x] := by
  subst hH
  refine ⟨rfl, fun _ => ⟨_, _, rfl, fun i hi => ?_⟩⟩
  rw [Nat.zero_add]
  have := cell_of_row (w.alloc (.cells #[x] t)) _ i _ _ _ (heap_alloc_new w _)
  rw [this]
  simp

theorem Ch.filter_yes {key : Int} {l : List Ch.Row} {k : Nat} (h : k < l.length) (hin : ¬ (l.getD k Row.zero).k = key) : (l.take (k + 1)).filter (notK key) = (l.take k).filter (notK key) ++ [l.getD k Row.zero] := by
  rw [take_snoc l Row.zero k h]; generalize l.getD k Row.zero = r at *; rw [List.filter_append]; simp [notK, hin]
theorem Ch.filter_no {key : Int} {l : List Ch.Row} {k : Nat} (h : k < l.length) (hin : (l.getD k Row.zero).k = key) : (l.take (k + 1)).filter (notK key) = (l.take k).filter (notK key) := by
  rw [take_snoc l Row.zero k h]; generalize l.getD k Row.zero = r at *; rw [List.filter_append]; simp [notK, hin]

end Go.Proofs.Ytjjbjdjkcckgmaa
