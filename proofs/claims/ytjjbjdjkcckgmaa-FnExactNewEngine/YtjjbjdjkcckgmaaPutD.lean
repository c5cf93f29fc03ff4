
/- Leaves that are named, not owned; one row as leaves. -/
import Derived.Test.YtjjbjdjkcckgmaaPutC
import Derived.Test.YtjjbjdjkcckgmaaPutN
namespace Go.Proofs.Ytjjbjdjkcckgmaa
open Go.RowKit

/-- Rows that lie behind a list, apart from the block of v. -/
def RefR (w : World) (v : Value) (ai : Option Addr) (ni : Nat) (l : List Ch.Row) : Prop :=
  CellsAt w ai (ni * 3) (rcells l) ∧ ni ≤ 9223372036854775807 ∧ ∀ b off, ai = some ⟨b, off, none⟩ → b < w.heap.size ∧ v.ownBlock ≠ some b
def RefLv (w : World) (B : Nat) (v : Value) (n : Nat) (vs : List Value) (ls : List (List Ch.Row)) : Prop :=
  ls.length = n ∧ w.ownsRow B 65 1 v n vs ∧ ∀ i, i < n → ∃ ai ni ci, vs[i]? = some (.slice ai ni ci) ∧ RefR w v ai ni (ls.getD i [])

theorem CellsAt.grown {w w' : World} {row : Option Nat} {a : Option Addr} {m : Nat} {xs : List Value} (h : CellsAt w a m xs) (hg : w.grownBy w' row) (hne : ∀ b off, a = some ⟨b, off, none⟩ → row ≠ some b) : CellsAt w' a m xs := by
  refine ⟨h.1, fun hm => ?_⟩
  obtain ⟨b, off, ha, hc⟩ := h.2 hm
  refine ⟨b, off, ha, fun i hi => ?_⟩
  have := hc i hi
  have hx : xs[i]? = some (xs[i]'(by rw [h.1]; exact hi)) := by simp
  rw [hx] at this ⊢
  exact grown_cell hg this (hne b off ha)
theorem RefR.move {w W w2 : World} {v v' : Value} {ai : Option Addr} {ni : Nat} {l : List Ch.Row} (h : RefR w v ai ni l) (hb : Below w.heap.size w W) (hg : W.grownBy w2 v.ownBlock) (hat : ∀ g, v'.ownBlock = some g → v.ownBlock = some g ∨ W.heap.size ≤ g) : RefR w2 v' ai ni l := by
  obtain ⟨h1, h2, h3⟩ := h
  refine ⟨(h1.below hb).grown hg (fun b off e => (h3 b off e).2), h2, fun b off e => ⟨?_, fun hv => ?_⟩⟩
  · have := (h3 b off e).1
    have := hb.size
    have := hg.size
    omega
  · have h4 := (h3 b off e).1
    have := hb.size
    rcases hat b hv with h5 | h5
    · exact (h3 b off e).2 h5
    · omega
theorem RefLv.at {w : World} {B : Nat} {a : Option Addr} {n cap : Nat} {vs : List Value} {ls : List (List Ch.Row)} (h : RefLv w B (.slice a n cap) n vs ls) : LvAt w a n ls := by
  obtain ⟨hl, ho, hi⟩ := h
  have hc := owns_cells ho
  rw [Nat.mul_one] at hc
  refine ⟨hl, vs, hc, fun i hlt => ?_⟩
  obtain ⟨ai, ni, ci, h1, h2⟩ := hi i hlt
  exact ⟨ai, ni, ci, h1, h2.1, h2.2.1⟩
theorem RefLv.app {w0 W w2 : World} {B n m : Nat} {v v' : Value} {vs xs : List Value} {ls nl : List (List Ch.Row)} (h : RefLv w0 B v n vs ls) (hb : Below w0.heap.size w0 W)
    (hl : nl.length = xs.length) (hm : m = n + xs.length) (hx : ∀ i, i < xs.length → ∃ w1 ai ni ci, xs[i]? = some (.slice ai ni ci) ∧ Below w1.heap.size w1 W ∧ RefR w1 v ai ni (nl.getD i []))
    (h2 : w2.ownsRow B 65 1 v' m (vs ++ xs)) (hg : W.grownBy w2 v.ownBlock) (hat : ∀ g, v'.ownBlock = some g → v.ownBlock = some g ∨ W.heap.size ≤ g) : RefLv w2 B v' m (vs ++ xs) (ls ++ nl) := by
  subst hm
  obtain ⟨hll, ho, hi⟩ := h
  have hvl : vs.length = n := by have := ho.1; omega
  refine ⟨by simp [hll, hl], h2, fun i hlt => ?_⟩
  by_cases hin : i < n
  · obtain ⟨ai, ni, ci, h1, h3⟩ := hi i hin
    refine ⟨ai, ni, ci, by rw [List.getElem?_append_left (by omega)]; exact h1, ?_⟩
    have e : (ls ++ nl).getD i [] = ls.getD i [] := by simp [List.getD, List.getElem?_append_left (show i < ls.length by omega)]
    rw [e]
    exact h3.move hb hg hat
  · obtain ⟨w1, ai, ni, ci, h1, hb1, h3⟩ := hx (i - n) (by omega)
    refine ⟨ai, ni, ci, by rw [List.getElem?_append_right (by omega), hvl]; exact h1, ?_⟩
    have e : (ls ++ nl).getD i [] = nl.getD (i - n) [] := by
      simp only [List.getD]
      rw [List.getElem?_append_right (by omega), hll]
    rw [e]
    exact h3.move hb1 hg hat
theorem CellsAt.cutL {w : World} {g o n k : Nat} {l : List Ch.Row} (h : CellsAt w (some ⟨g, o, none⟩) (n * 3) (rcells l)) (hk : k ≤ n) : CellsAt w (some ⟨g, o, none⟩) (k * 3) (rcells (l.take k)) := by
  have hl := h.rlen.out
  refine ⟨by rw [rcells_len]; simp; omega, fun hm => ?_⟩
  obtain ⟨b, off, ha, hc⟩ := h.2 (by omega)
  refine ⟨b, off, ha, fun i hi => ?_⟩
  rw [hc i (by omega), ← rcells_take, List.getElem?_take, if_pos hi]
theorem CellsAt.cutR {w : World} {g o n k : Nat} {l : List Ch.Row} (h : CellsAt w (some ⟨g, o, none⟩) (n * 3) (rcells l)) (hk : k ≤ n) : CellsAt w (some ⟨g, o + k * 3, none⟩) ((n - k) * 3) (rcells (l.drop k)) := by
  have hl := h.rlen.out
  refine ⟨by rw [rcells_len]; simp; omega, fun hm => ?_⟩
  obtain ⟨b, off, ha, hc⟩ := h.2 (by omega)
  simp only [Option.some.injEq, Addr.mk.injEq, and_true] at ha
  obtain ⟨rfl, rfl⟩ := ha
  refine ⟨g, o + k * 3, rfl, fun i hi => ?_⟩
  rw [show o + k * 3 + i = o + (k * 3 + i) by omega, hc (k * 3 + i) (by omega), ← rcells_drop, List.getElem?_drop]
theorem two_leaves {w : World} {x y : Value} {t : TypeId} {H : Nat} (hH : H = w.heap.size) : CellsAt (w.alloc (.cells #[x, y] t)) (some ⟨H, 0, none⟩) 2 [x, y] := by
  subst hH
  refine ⟨rfl, fun _ => ⟨_, _, rfl, fun i hi => ?_⟩⟩
  rw [Nat.zero_add]
  have := cell_of_row (w.alloc (.cells #[x, y] t)) _ i _ _ _ (heap_alloc_new w _)
  rw [this]
  simp
/-- One leaf of one row. -/
theorem one_put (W : World) (B : Nat) (rk rv : Int) (rg : Bool) (hB : B ≤ W.heap.size) : OwnLv ((W.alloc (.cells #[.int .i64 rk, .int .i64 rv, .bool rg] 49)).alloc (.cells #[.slice (some ⟨W.heap.size, 0, none⟩) 1 1] 65)) B (.slice (some ⟨W.heap.size + 1, 0, none⟩) 1 1) 1 [[⟨rk, rv, rg⟩]] := by
  have o1 : (W.alloc (.cells #[.int .i64 rk, .int .i64 rv, .bool rg] 49)).ownsRow B 49 3 (.slice (some ⟨W.heap.size, 0, none⟩) 1 1) 1 (rcells [⟨rk, rv, rg⟩]) := World.ownsRow_lit W #[.int .i64 rk, .int .i64 rv, .bool rg] 1 hB (by unfold maxLen; omega) rfl
  have o2 := World.ownsRow_lit (base := B) (e := 65) (size := 1) (W.alloc (.cells #[.int .i64 rk, .int .i64 rv, .bool rg] 49)) #[.slice (some ⟨W.heap.size, 0, none⟩) 1 1] 1 (by simp; omega) (by unfold maxLen; omega) rfl
  rw [show (W.alloc (.cells #[.int .i64 rk, .int .i64 rv, .bool rg] 49)).heap.size = W.heap.size + 1 by simp] at o2
  refine ⟨rfl, [.slice (some ⟨W.heap.size, 0, none⟩) 1 1], o2, fun i hi => ?_, ?_, ?_⟩
  · obtain rfl : i = 0 := by omega
    exact ⟨_, rfl, owns_below o1 ((Below.refl _ _).alloc (Nat.le_refl _) _)⟩
  · intro i j x y g hij hx hy
    have : j < 1 := by
      rcases Nat.lt_or_ge j 1 with h | h
      · exact h
      · rw [List.getElem?_eq_none (by simpa using h)] at hy; cases hy
    omega
  · intro i x g hx hv
    have : i = 0 := by
      rcases Nat.lt_or_ge i 1 with h | h
      · omega
      · rw [List.getElem?_eq_none (by simpa using h)] at hx; cases hx
    subst this
    simp at hx
    subst hx
    simp [Value.ownBlock] at hv ⊢
    omega
end Go.Proofs.Ytjjbjdjkcckgmaa
