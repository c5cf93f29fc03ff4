
/- Marks that a law writes into leaves. -/
import Derived.Test.YthfanfnbjldddaaGreatLvL
namespace Go.Proofs.YthfanfnbjldddaaGreat
open Go.RowKit

/-- Leaves of one's own, their lists told. -/
def OwnV (w : World) (B : Nat) (v : Value) (n : Nat) (vs : List Value) (ls : List (List Ch.Row)) : Prop :=
  ls.length = n ∧ w.ownsRow B 80 1 v n vs ∧
    (∀ i, i < n → ∃ x, vs[i]? = some x ∧ w.ownsRow B 53 3 x (ls.getD i []).length (rcells (ls.getD i []))) ∧
    (∀ (i j : Nat) (x y : Value) (g : Nat), i < j → vs[i]? = some x → vs[j]? = some y → x.ownBlock = some g → y.ownBlock ≠ some g) ∧
    (∀ (i : Nat) (x : Value) (g : Nat), vs[i]? = some x → v.ownBlock = some g → x.ownBlock ≠ some g)
theorem OwnLv.told {w : World} {B n : Nat} {v : Value} {ls : List (List Ch.Row)} (h : OwnLv w B v n ls) : ∃ vs, OwnV w B v n vs ls := by
  obtain ⟨hl, vs, ho, hi, hd, hd'⟩ := h
  exact ⟨vs, hl, ho, hi, hd, hd'⟩
theorem OwnV.own {w : World} {B n : Nat} {v : Value} {vs : List Value} {ls : List (List Ch.Row)} (h : OwnV w B v n vs ls) : OwnLv w B v n ls := by
  obtain ⟨hl, ho, hi, hd, hd'⟩ := h
  exact ⟨hl, vs, ho, hi, hd, hd'⟩
theorem OwnV.lt {w : World} {B n : Nat} {v : Value} {vs : List Value} {ls : List (List Ch.Row)} (h : OwnV w B v n vs ls) : ∀ (i : Nat) (x : Value) (g : Nat), vs[i]? = some x → x.ownBlock = some g → B ≤ g ∧ g < w.heap.size := by
  intro i x g hx hg
  obtain ⟨hl, ho, hi, hd, hd'⟩ := h
  have hvl : vs.length = n := by have := ho.1; omega
  have hin : i < n := by
    rcases Nat.lt_or_ge i n with h | h
    · exact h
    · rw [List.getElem?_eq_none (by omega)] at hx; cases hx
  obtain ⟨y, h1, h2⟩ := hi i hin
  rw [hx] at h1; cases h1
  exact owns_lt h2 g hg

theorem OwnV.below {w w' : World} {B n : Nat} {v : Value} {vs : List Value} {ls : List (List Ch.Row)} (h : OwnV w B v n vs ls) (hb : Below w.heap.size w w') : OwnV w' B v n vs ls := by
  obtain ⟨hl, ho, hi, hd, hd'⟩ := h
  refine ⟨hl, owns_below ho hb, fun i hlt => ?_, hd, hd'⟩
  obtain ⟨x, h1, h2⟩ := hi i hlt
  exact ⟨x, h1, owns_below h2 hb⟩

/-- One leaf of one's own: where it lies, and what comes of it when it alone is written. -/
theorem OwnV.leafAt {w : World} {B n cap : Nat} {a : Option Addr} {vs : List Value} {ls : List (List Ch.Row)} (h : OwnV w B (.slice a n cap) n vs ls) {k : Nat} (hk : k < n) :
    ∃ b ai ci, a = some ⟨b, 0, none⟩ ∧ b < w.heap.size ∧ w.cell? ⟨b, k, none⟩ = some (.slice ai (ls.getD k []).length ci) ∧ vs[k]? = some (.slice ai (ls.getD k []).length ci) ∧ w.ownsRow B 53 3 (.slice ai (ls.getD k []).length ci) (ls.getD k []).length (rcells (ls.getD k [])) ∧
      ∀ (w' : World) (l' : List Ch.Row), w.grownBy w' (Value.slice ai (ls.getD k []).length ci).ownBlock → l'.length = (ls.getD k []).length → w'.ownsRow B 53 3 (.slice ai (ls.getD k []).length ci) l'.length (rcells l') → OwnV w' B (.slice a n cap) n vs (ls.set k l') := by
  obtain ⟨hl, ho, hi, hd, hd'⟩ := h
  obtain ⟨x, h1, h2⟩ := hi k hk
  obtain ⟨ai, ci, rfl⟩ := owns_shape h2
  have hc := owns_cells ho
  rw [Nat.mul_one] at hc
  rcases ho.2 with ⟨hv, h0⟩ | ⟨g, cp, cur, hv, _⟩
  · omega
  simp only [Value.slice.injEq, true_and] at hv
  obtain ⟨rfl, rfl⟩ := hv
  obtain ⟨b, off, ha, hcc⟩ := hc.2 (by omega)
  simp only [Option.some.injEq, Addr.mk.injEq, and_true] at ha
  obtain ⟨rfl, rfl⟩ := ha
  have hck := (hcc k hk).trans h1
  rw [Nat.zero_add] at hck
  refine ⟨g, ai, ci, rfl, lt_of_cell hck, hck, h1, h2, ?_⟩
  intro w' l' hg hl' hw'
  refine ⟨by simpa using hl, ?_, fun i hlt => ?_, hd, hd'⟩
  · exact owns_grown ho hg fun g' hg' e => hd' k _ g' h1 hg' e
  · by_cases hik : k = i
    · subst hik
      refine ⟨_, h1, ?_⟩
      have e : (ls.set k l').getD k [] = l' := by simp [List.getD, hl, hk]
      rw [e]
      exact hw'
    · obtain ⟨y, h3, h4⟩ := hi i hlt
      refine ⟨y, h3, ?_⟩
      have e : (ls.set k l').getD i [] = ls.getD i [] := by simp [List.getD, hik]
      rw [e]
      refine owns_grown h4 hg fun g' hg' e => ?_
      rcases Nat.lt_or_gt_of_ne hik with hlt' | hgt
      · exact hd k i _ y g' hlt' h1 h3 e hg'
      · exact hd i k y _ g' hgt h3 h1 hg' e

/-- The marks of leaves: each from where the one ahead ends. -/
def Ch.before (ls : List (List Ch.Row)) (k : Nat) : Nat := ((ls.take k).map List.length).sum
def lvMark (ls : List (List Ch.Row)) (k : Nat) : List Ch.Row := rmarks (1 + 3 * (Ch.before ls k : Int)) (ls.getD k []).length
def lvMarks (ls : List (List Ch.Row)) : List (List Ch.Row) := (List.range ls.length).map (lvMark ls)
def lvMarked (ls : List (List Ch.Row)) (k : Nat) : List (List Ch.Row) := (List.range k).map (lvMark ls) ++ ls.drop k
theorem lvMarked_set (ls : List (List Ch.Row)) (k : Nat) (h : k < ls.length) : (lvMarked ls k).set k (lvMark ls k) = lvMarked ls (k + 1) := by
  unfold lvMarked
  rw [Ch.set_mid _ _ _ _ (by simp) h, List.range_succ]
  simp
theorem lvMarked_at (ls : List (List Ch.Row)) (k : Nat) : (lvMarked ls k).getD k [] = ls.getD k [] := by
  unfold lvMarked
  rw [List.getD, List.getElem?_append_right (by simp)]
  simp [List.getD]
theorem Ch.before_next (ls : List (List Ch.Row)) (k : Nat) (h : k < ls.length) : Ch.before ls (k + 1) = Ch.before ls k + (ls.getD k []).length := Ch.lv_take ls k h
theorem Ch.before_small {ls : List (List Ch.Row)} (hs : Ch.lvSize ls ≤ 1048576) (k : Nat) : Ch.before ls k ≤ 1048576 := by
  have := Ch.lv_le ls k
  unfold Ch.lvSize at hs
  unfold Ch.before
  omega

end Go.Proofs.YthfanfnbjldddaaGreat
