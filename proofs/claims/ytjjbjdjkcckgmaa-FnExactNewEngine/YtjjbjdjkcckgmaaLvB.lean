
/- Leaves in memory: lists whose cells are lists of rows. -/
import Derived.Test.YtjjbjdjkcckgmaaWth
import Derived.Test.YtjjbjdjkcckgmaaRowa
import Derived.Test.YtjjbjdjkcckgmaaMath3
namespace Go.Proofs.Ytjjbjdjkcckgmaa
open Go.RowKit

/-- Leaves that are read: cells that are lists, and behind each its rows. -/
def LvAt (w : World) (a : Option Addr) (n : Nat) (ls : List (List Ch.Row)) : Prop :=
  ls.length = n ∧ ∃ vs : List Value, CellsAt w a n vs ∧ ∀ i, i < n → ∃ ai ni ci, vs[i]? = some (.slice ai ni ci) ∧ CellsAt w ai (ni * 3) (rcells (ls.getD i [])) ∧ ni ≤ 9223372036854775807

theorem LvAt.below {w w' : World} {a : Option Addr} {n : Nat} {ls : List (List Ch.Row)} (h : LvAt w a n ls) (hb : Below w.heap.size w w') : LvAt w' a n ls := by
  obtain ⟨hl, vs, hc, hi⟩ := h
  refine ⟨hl, vs, hc.below hb, fun i hlt => ?_⟩
  obtain ⟨ai, ni, ci, h1, h2, h3⟩ := hi i hlt
  exact ⟨ai, ni, ci, h1, h2.below hb, h3⟩

theorem LvAt.len {w : World} {a : Option Addr} {n : Nat} {ls : List (List Ch.Row)} (h : LvAt w a n ls) : Hid (n = ls.length) := h.1.symm

theorem LvAt.leaf {w : World} {a : Option Addr} {n : Nat} {ls : List (List Ch.Row)} (h : LvAt w a n ls) {k : Nat} (hk : k < n) :
    ∃ b off ai ni ci, a = some ⟨b, off, none⟩ ∧ w.cell? ⟨b, off + k, none⟩ = some (.slice ai ni ci) ∧ CellsAt w ai (ni * 3) (rcells (ls.getD k [])) ∧ ni ≤ 9223372036854775807 := by
  obtain ⟨hl, vs, hc, hi⟩ := h
  obtain ⟨ai, ni, ci, h1, h2, h3⟩ := hi k hk
  obtain ⟨b, off, ha, hcc⟩ := hc.2 (by omega)
  exact ⟨b, off, ai, ni, ci, ha, (hcc k hk).trans h1, h2, h3⟩

/-- Leaves of one's own: each list in a block of its own. -/
def OwnLv (w : World) (B : Nat) (v : Value) (n : Nat) (ls : List (List Ch.Row)) : Prop :=
  ls.length = n ∧ ∃ vs : List Value, w.ownsRow B 65 1 v n vs ∧
    (∀ i, i < n → ∃ x, vs[i]? = some x ∧ w.ownsRow B 49 3 x (ls.getD i []).length (rcells (ls.getD i []))) ∧
    (∀ (i j : Nat) (x y : Value) (g : Nat), i < j → vs[i]? = some x → vs[j]? = some y → x.ownBlock = some g → y.ownBlock ≠ some g) ∧
    (∀ (i : Nat) (x : Value) (g : Nat), vs[i]? = some x → v.ownBlock = some g → x.ownBlock ≠ some g)

theorem OwnLv.below {w w' : World} {B : Nat} {v : Value} {n : Nat} {ls : List (List Ch.Row)} (h : OwnLv w B v n ls) (hb : Below w.heap.size w w') : OwnLv w' B v n ls := by
  obtain ⟨hl, vs, ho, hi, hd, hd'⟩ := h
  refine ⟨hl, vs, owns_below ho hb, fun i hlt => ?_, hd, hd'⟩
  obtain ⟨x, h1, h2⟩ := hi i hlt
  exact ⟨x, h1, owns_below h2 hb⟩

theorem OwnLv.base {w : World} {B B' : Nat} {v : Value} {n : Nat} {ls : List (List Ch.Row)} (h : OwnLv w B v n ls) (hb : B' ≤ B) : OwnLv w B' v n ls := by
  obtain ⟨hl, vs, ho, hi, hd, hd'⟩ := h
  refine ⟨hl, vs, owns_base ho hb, fun i hlt => ?_, hd, hd'⟩
  obtain ⟨x, h1, h2⟩ := hi i hlt
  exact ⟨x, h1, owns_base h2 hb⟩

theorem OwnLv.shape {w : World} {B : Nat} {v : Value} {n : Nat} {ls : List (List Ch.Row)} (h : OwnLv w B v n ls) : ∃ a cap, v = .slice a n cap := by
  obtain ⟨hl, vs, ho, _⟩ := h
  exact owns_shape ho

theorem OwnLv.at {w : World} {B : Nat} {a : Option Addr} {n cap : Nat} {ls : List (List Ch.Row)} (h : OwnLv w B (.slice a n cap) n ls) (hm : ∀ i, (ls.getD i []).length ≤ 9223372036854775807) : LvAt w a n ls := by
  obtain ⟨hl, vs, ho, hi, _⟩ := h
  have hc := owns_cells ho
  rw [Nat.mul_one] at hc
  refine ⟨hl, vs, hc, fun i hlt => ?_⟩
  obtain ⟨x, h1, h2⟩ := hi i hlt
  obtain ⟨ai, ci, rfl⟩ := owns_shape h2
  exact ⟨ai, _, ci, h1, owns_cells h2, hm i⟩

/-- A leaf is put: its rows are newer than all else. -/
theorem OwnLv.put {w0 w : World} {B o n cap k : Nat} {ls : List (List Ch.Row)} {x : Value} {l : List Ch.Row} (h : OwnLv w0 B (.slice (some ⟨o, 0, none⟩) n cap) n ls) (hb : Below w0.heap.size w0 w)
    (hx : w.ownsRow w0.heap.size 49 3 x l.length (rcells l)) (hk : k < n) (hB : B ≤ w0.heap.size) : OwnLv (w.setCell ⟨o, k, none⟩ x) B (.slice (some ⟨o, 0, none⟩) n cap) n (ls.set k l) := by
  obtain ⟨hl, vs, ho, hi, hd, hd'⟩ := h
  have ho1 := owns_below ho hb
  have hvl : vs.length = n := by have := ho.1; omega
  have hst := ho1.stored k x
  have hob := owns_bounds ho
  have fresh : ∀ g, x.ownBlock = some g → w0.heap.size ≤ g := fun g hg => (owns_lt hx g hg).1
  have old : ∀ (i : Nat) (y : Value) (g : Nat), vs[i]? = some y → y.ownBlock = some g → g < w0.heap.size := by
    intro i y g hy hg
    have hin : i < n := by
      rcases Nat.lt_or_ge i n with h | h
      · exact h
      · rw [List.getElem?_eq_none (by omega)] at hy; cases hy
    obtain ⟨y', h1, h2⟩ := hi i hin
    rw [hy] at h1; cases h1
    exact (owns_lt h2 g hg).2
  refine ⟨by simpa using hl, vs.set k x, hst.1, fun i hlt => ?_, ?_, ?_⟩
  · by_cases hik : k = i
    · subst hik
      refine ⟨x, by simp [hvl, hk], ?_⟩
      have e : (ls.set k l).getD k [] = l := by simp [List.getD, hl, hk]
      rw [e]
      refine owns_base (owns_grown hx hst.2 fun g hg he => ?_) hB
      have := fresh g hg
      simp at he
      omega
    · obtain ⟨y, h1, h2⟩ := hi i hlt
      refine ⟨y, by rw [List.getElem?_set_ne hik]; exact h1, ?_⟩
      have e : (ls.set k l).getD i [] = ls.getD i [] := by simp [List.getD, hik]
      rw [e]
      refine owns_grown (owns_below h2 hb) hst.2 fun g hg he => ?_
      simp at he
      subst he
      exact hd' i y _ h1 rfl hg
  · intro i j y z g hij hy hz hyg hzg
    by_cases hik : k = i
    · subst hik
      rw [List.getElem?_set_ne (by omega)] at hz
      rw [List.getElem?_set_self (by omega)] at hy
      cases hy
      have := fresh g hyg
      have := old j z g hz hzg
      omega
    · rw [List.getElem?_set_ne hik] at hy
      by_cases hjk : k = j
      · subst hjk
        rw [List.getElem?_set_self (by omega)] at hz
        cases hz
        have := fresh g hzg
        have := old i y g hy hyg
        omega
      · rw [List.getElem?_set_ne hjk] at hz
        exact hd i j y z g hij hy hz hyg hzg
  · intro i y g hy hg hyg
    by_cases hik : k = i
    · subst hik
      rw [List.getElem?_set_self (by omega)] at hy
      cases hy
      have := fresh g hyg
      simp [Value.ownBlock] at hg
      omega
    · rw [List.getElem?_set_ne hik] at hy
      exact hd' i y g hy hg hyg

theorem hTake {P : Program} {l : List Oper} {Q : Exit → Act → World → Prop} {md : Region.Mode} {S : World → Prop} {i : Nat} {oi : Oper} {v : Value} {fuel : Nat} {listed : Array Bool} {a : Act} {w : World} (hi : l[i]? = some oi)
    (hs : Region.noSelect l.toArray = true) (hf : Region.free md l.toArray listed i = true) (hr : (Region.ready md l.toArray listed).contains i = true)
    (hw : Region.wanted oi (yielded l.toArray a.tmps) = true) (hy : ∀ W, S W → (execOp a.eval oi).run P W = .ok (.value v) W) (hS : S w)
    (h : wpAnyH P md l.toArray (NoPanic Q) S fuel (listed.setIfInBounds i true) (a.put oi.dst v) w) : wpAnyH P md l.toArray (NoPanic Q) S (fuel + 1) listed a w :=
  wpAnyH_take (by simpa using hi) hs hf hr (fun _ _ _ h => h) (Or.inl ⟨hw, hy⟩) hS h
theorem hSkip {P : Program} {l : List Oper} {Q : Exit → Act → World → Prop} {md : Region.Mode} {S : World → Prop} {i : Nat} {oi : Oper} {fuel : Nat} {listed : Array Bool} {a : Act} {w : World} (hi : l[i]? = some oi)
    (hs : Region.noSelect l.toArray = true) (hf : Region.free md l.toArray listed i = true) (hr : (Region.ready md l.toArray listed).contains i = true)
    (hw : Region.wanted oi (yielded l.toArray a.tmps) = false) (hS : S w)
    (h : wpAnyH P md l.toArray (NoPanic Q) S fuel (listed.setIfInBounds i true) (a.put oi.dst undef) w) : wpAnyH P md l.toArray (NoPanic Q) S (fuel + 1) listed a w :=
  wpAnyH_take (by simpa using hi) hs hf hr (fun _ _ _ h => h) (Or.inr ⟨hw, rfl⟩) hS h

end Go.Proofs.Ytjjbjdjkcckgmaa
