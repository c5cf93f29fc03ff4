
/- Small laws on memory that the walks of this seat share. -/
import Derived.WalkKit
import Derived.WalkSpells
import Derived.WalkLawsBesides
import Derived.SizedLaws
import Derived.Test.YtalhmogaogaekaaDoorMath
namespace Go.Proofs.YtalhmogaogaekaaDoor
open Go.RowKit

/-- The cells of a slice that is read: where there is a cell the slice has an address, and behind it they lie. -/
def CellsAt (w : World) (a : Option Addr) (m : Nat) (xs : List Value) : Prop :=
  xs.length = m ∧ (0 < m → ∃ b off, a = some ⟨b, off, none⟩ ∧ ∀ i, i < m → w.cell? ⟨b, off + i, none⟩ = xs[i]?)

/-- Bytes as values. -/
def bts (zs : List Int) : List Value := zs.map (Value.int .u8)
/-- Each a byte. -/
def IsB (zs : List Int) : Prop := ∀ i, 0 ≤ zs.getD i 0 ∧ zs.getD i 0 ≤ 255

theorem isB_of {zs : List Int} (h : Ch.AllB zs) : IsB zs := by
  intro i
  by_cases hi : i < zs.length
  · have : zs.getD i 0 = zs[i] := by simp [List.getD, hi]
    rw [this]; exact h _ (List.getElem_mem hi)
  · have : zs.getD i 0 = 0 := by simp [List.getD, List.getElem?_eq_none (show zs.length ≤ i by omega)]
    rw [this]; decide

theorem CellsAt.at {w : World} {a : Option Addr} {n : Nat} {zs : List Int} (h : CellsAt w a n (bts zs)) {k : Nat} (hk : k < n) :
    ∃ b off, a = some ⟨b, off, none⟩ ∧ w.cell? ⟨b, off + k, none⟩ = some (.int .u8 (zs.getD k 0)) := by
  obtain ⟨b, off, ha, hc⟩ := h.2 (by omega)
  refine ⟨b, off, ha, ?_⟩
  have hl : zs.length = n := by simpa [bts] using h.1
  rw [hc k hk]
  simp [bts, List.getD, show k < zs.length by omega]

theorem CellsAt.len {w : World} {a : Option Addr} {n : Nat} {zs : List Int} (h : CellsAt w a n (bts zs)) : Hid (n = zs.length) := by
  have hl : zs.length = n := by simpa [bts] using h.1
  exact hl.symm

theorem lt_of_cell {w : World} {b o : Nat} {v : Value} (h : w.cell? ⟨b, o, none⟩ = some v) : b < w.heap.size := by
  by_cases hb : b < w.heap.size
  · exact hb
  · exfalso
    have : w.heap[b]? = none := by simp; omega
    simp [World.cell?, this] at h

theorem CellsAt.below {w w' : World} {a : Option Addr} {m : Nat} {xs : List Value} (h : CellsAt w a m xs) (hb : Below w.heap.size w w') : CellsAt w' a m xs := by
  refine ⟨h.1, fun hm => ?_⟩
  obtain ⟨b, off, ha, hc⟩ := h.2 hm
  refine ⟨b, off, ha, fun i hi => ?_⟩
  have := hc i hi
  have hx : xs[i]? = some (xs[i]'(by rw [h.1]; exact hi)) := by simp
  rw [← this]
  exact hb.cell (p := ⟨b, off + i, none⟩) (lt_of_cell (this.trans hx))

theorem keep_cell {w w' : World} (hb : Below w.heap.size w w') {b o : Nat} {v : Value} (h : w.cell? ⟨b, o, none⟩ = some v) : w'.cell? ⟨b, o, none⟩ = some v :=
  (hb.cell (p := ⟨b, o, none⟩) (lt_of_cell h)).trans h

theorem below_box {w w1 : World} {o : Obj} (b1 : Below (w.alloc o).heap.size (w.alloc o) w1) : Below w.heap.size w w1 :=
  ((Below.refl _ _).alloc (Nat.le_refl _) _).trans (b1.mono (by simp))

theorem box_cell {w w1 : World} {cs : Array Value} {t : TypeId} (b1 : Below (w.alloc (.cells cs t)).heap.size (w.alloc (.cells cs t)) w1) (i : Nat) : w1.cell? ⟨w.heap.size, i, none⟩ = cs[i]? := by
  rw [b1.cell (p := ⟨w.heap.size, i, none⟩) (by simp)]
  exact cell_of_row _ _ _ _ _ _ (heap_alloc_new w _)

theorem bcell {W w1 : World} (hb : Below W.heap.size W w1) : (∀ b o, b < W.heap.size → w1.cell? ⟨b, o, none⟩ = W.cell? ⟨b, o, none⟩) ∧ (∀ b o, b < W.heap.size → w1.frozen? ⟨b, o, none⟩ = W.frozen? ⟨b, o, none⟩) :=
  ⟨fun b o h => hb.cell (p := ⟨b, o, none⟩) h, fun b o h => hb.frozen (p := ⟨b, o, none⟩) h⟩

theorem owns_below {w w' : World} {base : Nat} {e : TypeId} {size : Nat} {v : Value} {n : Nat} {xs : List Value} (h : w.ownsRow base e size v n xs) (hb : Below w.heap.size w w') : w'.ownsRow base e size v n xs := by
  refine ⟨h.1, ?_⟩
  rcases h.2 with h' | ⟨g, cap, cur, hv, hg, hh, h1, h2, h3, h4⟩
  · exact .inl h'
  · refine .inr ⟨g, cap, cur, hv, hg, ?_, h1, h2, h3, h4⟩
    have hlt : g < w.heap.size := by
      by_cases hlt : g < w.heap.size
      · exact hlt
      · rw [Array.getElem?_eq_none (by omega)] at hh; cases hh
    rw [hb.block g hlt]; exact hh

theorem owns_cells {w : World} {base : Nat} {e : TypeId} {size : Nat} {a : Option Addr} {n cap : Nat} {xs : List Value} (h : w.ownsRow base e size (.slice a n cap) n xs) : CellsAt w a (n * size) xs := by
  refine ⟨h.1, fun hm => ?_⟩
  rcases h.2 with ⟨hv, h0⟩ | ⟨g, cap', cur, hv, _⟩
  · subst h0; simp at hm
  · simp only [Value.slice.injEq] at hv
    obtain ⟨rfl, _, rfl⟩ := hv
    exact ⟨g, 0, rfl, fun i hi => by rw [Nat.zero_add]; exact h.cellAt i hi⟩

theorem owns_some {w : World} {base : Nat} {e : TypeId} {size g n cap : Nat} {xs : List Value} (h : w.ownsRow base e size (.slice (some ⟨g, 0, none⟩) n cap) n xs) {j : Nat} (hj : j < n * size) : ∃ u, w.cell? ⟨g, j, none⟩ = some u := by
  rw [h.cellAt j hj]
  exact ⟨xs[j]'(by rw [h.1]; exact hj), by simp⟩

theorem owns_bounds {w : World} {base : Nat} {e : TypeId} {size g n cap : Nat} {xs : List Value} (h : w.ownsRow base e size (.slice (some ⟨g, 0, none⟩) n cap) n xs) : base ≤ g ∧ g < w.heap.size := by
  rcases h.2 with ⟨hv, _⟩ | ⟨g', cap', cur, hv, hb, hh, _⟩
  · simp at hv
  · simp only [Value.slice.injEq, Option.some.injEq, Addr.mk.injEq, and_true, true_and] at hv
    obtain ⟨rfl, rfl⟩ := hv
    refine ⟨hb, ?_⟩
    by_cases hlt : g < w.heap.size
    · exact hlt
    · rw [Array.getElem?_eq_none (by omega)] at hh; cases hh

theorem owns_base {w : World} {base base' : Nat} {e : TypeId} {size : Nat} {v : Value} {n : Nat} {xs : List Value} (h : w.ownsRow base e size v n xs) (hb : base' ≤ base) : w.ownsRow base' e size v n xs := by
  refine ⟨h.1, ?_⟩
  rcases h.2 with h' | ⟨g, cap, cur, hv, hg, hh, h1, h2, h3, h4⟩
  · exact .inl h'
  · exact .inr ⟨g, cap, cur, hv, by omega, hh, h1, h2, h3, h4⟩

theorem owns_shape {w : World} {base : Nat} {e : TypeId} {size : Nat} {v : Value} {n : Nat} {xs : List Value} (h : w.ownsRow base e size v n xs) : ∃ a cap, v = .slice a n cap := by
  rcases h.2 with ⟨hv, h0⟩ | ⟨g, cap', cur, hv, _⟩
  · subst h0; exact ⟨_, _, hv⟩
  · exact ⟨_, _, hv⟩

/-- Rows as values: three cells each. -/
def rcells (rs : List Ch.Row) : List Value := rs.flatMap fun r => [.int .i64 r.k, .int .i64 r.v, .bool r.g]
theorem rcells_len (rs : List Ch.Row) : (rcells rs).length = rs.length * 3 := by
  induction rs with
  | nil => rfl
  | cons r rs ih => simp only [rcells, List.flatMap_cons, List.length_append, List.length_cons, List.length_nil] at *; omega
theorem rcells_at (rs : List Ch.Row) (k : Nat) (h : k < rs.length) : (rcells rs)[k * 3]? = some (.int .i64 (rs.getD k Ch.Row.zero).k) ∧ (rcells rs)[k * 3 + 1]? = some (.int .i64 (rs.getD k Ch.Row.zero).v) ∧ (rcells rs)[k * 3 + 2]? = some (.bool (rs.getD k Ch.Row.zero).g) := by
  induction rs generalizing k with
  | nil => simp at h
  | cons r rs ih =>
    cases k with
    | zero => simp [rcells]
    | succ k =>
      have := ih k (by simpa using h)
      simp only [rcells, List.flatMap_cons] at *
      rw [show (k + 1) * 3 = k * 3 + 1 + 1 + 1 by omega]
      simpa using this

theorem CellsAt.rlen {w : World} {a : Option Addr} {n : Nat} {rs : List Ch.Row} (h : CellsAt w a (n * 3) (rcells rs)) : Hid (n = rs.length) := by
  have := h.1
  rw [rcells_len] at this
  exact (by omega : n = rs.length)

theorem CellsAt.row {w : World} {a : Option Addr} {n : Nat} {rs : List Ch.Row} (h : CellsAt w a (n * 3) (rcells rs)) {k : Nat} (hk : k < n) :
    ∃ b off, a = some ⟨b, off, none⟩ ∧ w.cell? ⟨b, off + k * 3, none⟩ = some (.int .i64 (rs.getD k Ch.Row.zero).k) ∧ w.cell? ⟨b, off + k * 3 + 1, none⟩ = some (.int .i64 (rs.getD k Ch.Row.zero).v) ∧ w.cell? ⟨b, off + k * 3 + 2, none⟩ = some (.bool (rs.getD k Ch.Row.zero).g) := by
  obtain ⟨b, off, ha, hc⟩ := h.2 (by omega)
  have hl := h.rlen.out
  obtain ⟨h0, h1, h2⟩ := rcells_at rs k (by omega)
  exact ⟨b, off, ha, (hc _ (by omega)).trans h0, by rw [Nat.add_assoc]; exact (hc _ (by omega)).trans h1, by rw [Nat.add_assoc]; exact (hc _ (by omega)).trans h2⟩

theorem rcells_set (rs : List Ch.Row) (k : Nat) (r : Ch.Row) (h : k < rs.length) :
    (((rcells rs).set (k * 3) (.int .i64 r.k)).set (k * 3 + 1) (.int .i64 r.v)).set (k * 3 + 2) (.bool r.g) = rcells (rs.set k r) := by
  induction rs generalizing k with
  | nil => simp at h
  | cons q rs ih =>
    cases k with
    | zero => simp [rcells]
    | succ k =>
      have := ih k (by simpa using h)
      simp only [rcells, List.flatMap_cons, List.set_cons_succ] at *
      rw [← this, show (k + 1) * 3 = k * 3 + 1 + 1 + 1 by omega]
      simp

theorem fill_set {α : Type} (rs : List α) (d d' : α) (n k : Nat) (h : n = rs.length) (hk : k < n) : (rs.take k ++ List.replicate (n - k) d).set k (rs.getD k d') = rs.take (k + 1) ++ List.replicate (n - (k + 1)) d := by
  subst h
  rw [Ch.take_snoc rs d' k hk, List.set_append_right _ _ (by simp; omega)]
  have : rs.length - k = rs.length - (k + 1) + 1 := by omega
  rw [this, List.replicate_succ]
  simp [Nat.min_eq_left (Nat.le_of_lt hk)]

theorem owns_stored3 {w : World} {base : Nat} {e : TypeId} {size g n cap : Nat} {xs : List Value} (h : w.ownsRow base e size (.slice (some ⟨g, 0, none⟩) n cap) n xs) (j : Nat) (a b c : Value) :
    (((w.setCell ⟨g, j, none⟩ a).setCell ⟨g, j + 1, none⟩ b).setCell ⟨g, j + 2, none⟩ c).ownsRow base e size (.slice (some ⟨g, 0, none⟩) n cap) n (((xs.set j a).set (j + 1) b).set (j + 2) c) :=
  (((h.stored j a).1.stored (j + 1) b).1.stored (j + 2) c).1

theorem made_rows (n : Nat) : (madeCells (Value.agg #[.int .i64 0, .int .i64 0, .bool false]).cells (n * 3)).toList = rcells (List.replicate n Ch.Row.zero) := by
  apply List.ext_getElem?
  intro j
  by_cases hj : j < n * 3
  · have hl : j / 3 < n := by omega
    obtain ⟨h0, h1, h2⟩ := rcells_at (List.replicate n Ch.Row.zero) (j / 3) (by simpa using hl)
    simp only [List.getD, List.getElem?_replicate, hl, if_true, Option.getD_some, Ch.Row.zero] at h0 h1 h2
    have hm : j % 3 < 3 := Nat.mod_lt _ (by decide)
    have he : j = j / 3 * 3 + j % 3 := by omega
    have e : (madeCells (Value.agg #[.int .i64 0, .int .i64 0, .bool false]).cells (n * 3)).toList[j]? = #[Value.int .i64 0, .int .i64 0, .bool false][j % 3]? := by
      simp [madeCells, hj, Value.cells, hm]
    rw [e]
    generalize j % 3 = m at *
    generalize j / 3 = q at *
    subst he
    match m, hm with
    | 0, _ => exact h0.symm
    | 1, _ => exact h1.symm
    | 2, _ => exact h2.symm
  · have := rcells_len (List.replicate n Ch.Row.zero)
    rw [List.getElem?_eq_none (by simp [madeCells]; omega), List.getElem?_eq_none (by rw [this]; simp; omega)]
end Go.Proofs.YtalhmogaogaekaaDoor
