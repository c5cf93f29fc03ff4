
/- Holds and locks in memory: lists of two numbers, and locks that hold two such lists. -/
import Derived.Test.YtjagobcogkdfhaaGen
import Derived.Test.YtjagobcogkdfhaaLkM
namespace Go.Proofs.Ytjagobcogkdfhaa
open Go.RowKit

/-- Holds as values: two cells each. -/
def hcells (hs : List Ch.Hold) : List Value := hs.flatMap fun h => [.int .i64 h.t, .int .i64 h.m]
theorem hcells_len (hs : List Ch.Hold) : (hcells hs).length = hs.length * 2 := by
  induction hs with
  | nil => rfl
  | cons r rs ih => simp only [hcells, List.flatMap_cons, List.length_append, List.length_cons, List.length_nil] at *; omega
theorem hcells_append (a b : List Ch.Hold) : hcells (a ++ b) = hcells a ++ hcells b := by simp [hcells]
theorem hcells_at (hs : List Ch.Hold) (k : Nat) (h : k < hs.length) : (hcells hs)[k * 2]? = some (.int .i64 (hs.getD k Ch.Hold.zero).t) ∧ (hcells hs)[k * 2 + 1]? = some (.int .i64 (hs.getD k Ch.Hold.zero).m) := by
  induction hs generalizing k with
  | nil => simp at h
  | cons r rs ih =>
    cases k with
    | zero => simp [hcells]
    | succ k =>
      have := ih k (by simpa using h)
      simp only [hcells, List.flatMap_cons] at *
      rw [show (k + 1) * 2 = k * 2 + 1 + 1 by omega]
      simpa using this
theorem hcells_one (hs : List Ch.Hold) : ∀ x ∈ hcells hs, x.cells = #[x] := by
  intro x hx
  simp only [hcells, List.mem_flatMap] at hx
  obtain ⟨r, _, hx⟩ := hx
  simp at hx
  rcases hx with rfl | rfl <;> rfl
theorem hcells_set (hs : List Ch.Hold) (k : Nat) (r : Ch.Hold) (h : k < hs.length) :
    ((hcells hs).set (k * 2) (.int .i64 r.t)).set (k * 2 + 1) (.int .i64 r.m) = hcells (hs.set k r) := by
  induction hs generalizing k with
  | nil => simp at h
  | cons q rs ih =>
    cases k with
    | zero => simp [hcells]
    | succ k =>
      have := ih k (by simpa using h)
      simp only [hcells, List.flatMap_cons, List.set_cons_succ] at *
      rw [← this, show (k + 1) * 2 = k * 2 + 1 + 1 by omega]
      simp

theorem CellsAt.hlen {w : World} {a : Option Addr} {n : Nat} {hs : List Ch.Hold} (h : CellsAt w a (n * 2) (hcells hs)) : Hid (n = hs.length) := by
  have := h.1
  rw [hcells_len] at this
  exact (by omega : n = hs.length)
theorem CellsAt.hold {w : World} {a : Option Addr} {n : Nat} {hs : List Ch.Hold} (h : CellsAt w a (n * 2) (hcells hs)) {k : Nat} (hk : k < n) :
    ∃ b off, a = some ⟨b, off, none⟩ ∧ w.cell? ⟨b, off + k * 2, none⟩ = some (.int .i64 (hs.getD k Ch.Hold.zero).t) ∧ w.cell? ⟨b, off + k * 2 + 1, none⟩ = some (.int .i64 (hs.getD k Ch.Hold.zero).m) := by
  obtain ⟨b, off, ha, hc⟩ := h.2 (by omega)
  have hl := h.hlen.out
  obtain ⟨h0, h1⟩ := hcells_at hs k (by omega)
  exact ⟨b, off, ha, (hc _ (by omega)).trans h0, by rw [Nat.add_assoc]; exact (hc _ (by omega)).trans h1⟩

/-- One lock that is read: its three cells at a place, and behind two of them its lists. -/
def LkOne (w : World) (b off : Nat) (ah : Option Addr) (nh ch : Nat) (aq : Option Addr) (nq cq : Nat) (l : Ch.Lock) : Prop :=
  w.cell? ⟨b, off, none⟩ = some (.int .i64 l.r) ∧ w.cell? ⟨b, off + 1, none⟩ = some (.slice ah nh ch) ∧ w.cell? ⟨b, off + 2, none⟩ = some (.slice aq nq cq) ∧
    CellsAt w ah (nh * 2) (hcells l.hs) ∧ CellsAt w aq (nq * 2) (hcells l.qs) ∧ nh ≤ 9223372036854775807 ∧ nq ≤ 9223372036854775807 ∧ nh ≤ ch ∧ nq ≤ cq
theorem LkOne.below {w w' : World} {b off : Nat} {ah : Option Addr} {nh ch : Nat} {aq : Option Addr} {nq cq : Nat} {l : Ch.Lock} (h : LkOne w b off ah nh ch aq nq cq l) (hb : Below w.heap.size w w') : LkOne w' b off ah nh ch aq nq cq l := by
  obtain ⟨h0, h1, h2, h3, h4, h5⟩ := h
  exact ⟨keep_cell hb h0, keep_cell hb h1, keep_cell hb h2, h3.below hb, h4.below hb, h5⟩

/-- Locks that are read. -/
def LkAt (w : World) (a : Option Addr) (n : Nat) (ls : List Ch.Lock) : Prop :=
  ls.length = n ∧ (0 < n → ∃ b off, a = some ⟨b, off, none⟩ ∧ ∀ i, i < n → ∃ ah nh ch aq nq cq, LkOne w b (off + i * 3) ah nh ch aq nq cq (Ch.lkAt ls i))
theorem LkAt.below {w w' : World} {a : Option Addr} {n : Nat} {ls : List Ch.Lock} (h : LkAt w a n ls) (hb : Below w.heap.size w w') : LkAt w' a n ls := by
  refine ⟨h.1, fun h0 => ?_⟩
  obtain ⟨b, off, ha, hi⟩ := h.2 h0
  refine ⟨b, off, ha, fun i hlt => ?_⟩
  obtain ⟨ah, nh, ch, aq, nq, cq, h1⟩ := hi i hlt
  exact ⟨ah, nh, ch, aq, nq, cq, h1.below hb⟩
theorem LkAt.len {w : World} {a : Option Addr} {n : Nat} {ls : List Ch.Lock} (h : LkAt w a n ls) : Hid (n = ls.length) := h.1.symm
theorem LkAt.lock {w : World} {a : Option Addr} {n : Nat} {ls : List Ch.Lock} (h : LkAt w a n ls) {k : Nat} (hk : k < n) :
    ∃ b off ah nh ch aq nq cq, a = some ⟨b, off, none⟩ ∧ LkOne w b (off + k * 3) ah nh ch aq nq cq (Ch.lkAt ls k) := by
  obtain ⟨b, off, ha, hi⟩ := h.2 (by omega)
  obtain ⟨ah, nh, ch, aq, nq, cq, h1⟩ := hi k hk
  exact ⟨b, off, ah, nh, ch, aq, nq, cq, ha, h1⟩

/-- What locks take of the size that is left. -/
def Ch.lkSum (ls : List Ch.Lock) : Nat := (ls.map fun l => l.hs.length + l.qs.length).sum
def Ch.lkSize (ls : List Ch.Lock) : Nat := ls.length + Ch.lkSum ls
def Ch.lkLeft (ls : List Ch.Lock) : Int := if Ch.lkSize ls ≤ 1048576 then 1048576 - (Ch.lkSize ls : Int) else -1
theorem Ch.lkLeft_big {ls : List Ch.Lock} (h : 1048576 < Ch.lkSize ls) : -1 = Ch.lkLeft ls := by
  rw [Ch.lkLeft, if_neg (by omega)]
theorem Ch.lk_take (ls : List Ch.Lock) (k : Nat) (h : k < ls.length) : Ch.lkSum (ls.take (k + 1)) = Ch.lkSum (ls.take k) + ((Ch.lkAt ls k).hs.length + (Ch.lkAt ls k).qs.length) := by
  unfold Ch.lkSum Ch.lkAt
  rw [Ch.take_snoc ls Ch.Lock.zero k h]; simp
theorem Ch.lk_le (ls : List Ch.Lock) (k : Nat) : Ch.lkSum (ls.take k) ≤ Ch.lkSum ls := by
  unfold Ch.lkSum
  induction ls generalizing k with
  | nil => simp
  | cons l ls ih =>
    cases k with
    | zero => simp
    | succ k => have := ih k; simp only [List.take_succ_cons, List.map_cons, List.sum_cons]; omega
theorem Ch.lk_one {ls : List Ch.Lock} {N : Nat} (h : Ch.lkSize ls ≤ N) (i : Nat) : (Ch.lkAt ls i).hs.length ≤ N ∧ (Ch.lkAt ls i).qs.length ≤ N := by
  by_cases hi : i < ls.length
  · have h1 := Ch.lk_take ls i hi
    have h2 := Ch.lk_le ls (i + 1)
    unfold Ch.lkSize at h
    omega
  · simp [Ch.lkAt, List.getD, List.getElem?_eq_none (show ls.length ≤ i by omega), Ch.Lock.zero]
end Go.Proofs.Ytjagobcogkdfhaa
