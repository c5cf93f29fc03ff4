
/- Lists of two numbers in memory (holds, edges, pairs). -/
import Derived.Test.YtalhmogaogaekaaDoorProg
import Derived.Test.YtalhmogaogaekaaDoorBase
import Derived.Test.YtalhmogaogaekaaDoorLkM
namespace Go.Proofs.YtalhmogaogaekaaDoor
open Go.RowKit

/-- Holds as values: two cells each. -/
def hcells (hs : List Ch.Hold) : List Value := hs.flatMap fun h => [.int .i64 h.t, .int .i64 h.m]
theorem hcells_len (hs : List Ch.Hold) : (hcells hs).length = hs.length * 2 := by
  induction hs with
  | nil => rfl
  | cons r rs ih => simp only [hcells, List.flatMap_cons, List.length_append, List.length_cons, List.length_nil] at *; omega
theorem hcells_append (a b : List Ch.Hold) : hcells (a ++ b) = hcells a ++ hcells b := by simp [hcells]
theorem hcells_at (hs : List Ch.Hold) (k : Nat) (h : k < hs.length) : (hcells hs)[k * 2]? = some (.int .i64 (hs.getD k Ch.Hold.zero).t) ∧ (hcells hs)[k * 2 + 1]? = some (.int .i64 (hs.getD k Ch.Hold.zero).m) := by
  induction hs generalizing k with
  | nil => simp at h
  | cons r rs ih =>
    cases k with
    | zero => simp [hcells]
    | succ k =>
      have := ih k (by simpa using h)
      simp only [hcells, List.flatMap_cons] at *
      rw [show (k + 1) * 2 = k * 2 + 1 + 1 by omega]
      simpa using this
theorem hcells_one (hs : List Ch.Hold) : ∀ x ∈ hcells hs, x.cells = #[x] := by
  intro x hx
  simp only [hcells, List.mem_flatMap] at hx
  obtain ⟨r, _, hx⟩ := hx
  simp at hx
  rcases hx with rfl | rfl <;> rfl
theorem hcells_set (hs : List Ch.Hold) (k : Nat) (r : Ch.Hold) (h : k < hs.length) :
    ((hcells hs).set (k * 2) (.int .i64 r.t)).set (k * 2 + 1) (.int .i64 r.m) = hcells (hs.set k r) := by
  induction hs generalizing k with
  | nil => simp at h
  | cons q rs ih =>
    cases k with
    | zero => simp [hcells]
    | succ k =>
      have := ih k (by simpa using h)
      simp only [hcells, List.flatMap_cons, List.set_cons_succ] at *
      rw [← this, show (k + 1) * 2 = k * 2 + 1 + 1 by omega]
      simp

theorem CellsAt.hlen {w : World} {a : Option Addr} {n : Nat} {hs : List Ch.Hold} (h : CellsAt w a (n * 2) (hcells hs)) : Hid (n = hs.length) := by
  have := h.1
  rw [hcells_len] at this
  exact (by omega : n = hs.length)
theorem CellsAt.hold {w : World} {a : Option Addr} {n : Nat} {hs : List Ch.Hold} (h : CellsAt w a (n * 2) (hcells hs)) {k : Nat} (hk : k < n) :
    ∃ b off, a = some ⟨b, off, none⟩ ∧ w.cell? ⟨b, off + k * 2, none⟩ = some (.int .i64 (hs.getD k Ch.Hold.zero).t) ∧ w.cell? ⟨b, off + k * 2 + 1, none⟩ = some (.int .i64 (hs.getD k Ch.Hold.zero).m) := by
  obtain ⟨b, off, ha, hc⟩ := h.2 (by omega)
  have hl := h.hlen.out
  obtain ⟨h0, h1⟩ := hcells_at hs k (by omega)
  exact ⟨b, off, ha, (hc _ (by omega)).trans h0, by rw [Nat.add_assoc]; exact (hc _ (by omega)).trans h1⟩

theorem hcells_one' (hs : List Ch.Hold) : ∀ u ∈ hcells hs, u.oneCell' = true := by
  intro x hx
  simp only [hcells, List.mem_flatMap] at hx
  obtain ⟨r, _, hx⟩ := hx
  simp at hx
  rcases hx with rfl | rfl <;> rfl
theorem made_cells (z : Value) (n size : Nat) (hz : z.cells.size = size) (hs : 0 < size) (f : Nat → List Value) (hf : ∀ i, f i = z.cells.toList) : (madeCells z.cells (n * size)).toList = (List.range n).flatMap f := by
  have key : ∀ (l : List Nat) (j : Nat), j < l.length * size → (l.flatMap f)[j]? = z.cells[j % size]? := by
    intro l
    induction l with
    | nil => intro j hj; simp at hj
    | cons a l ih =>
      intro j hj
      rw [List.flatMap_cons]
      by_cases hjs : j < size
      · rw [List.getElem?_append_left (by rw [hf]; simpa [hz] using hjs), hf, Nat.mod_eq_of_lt hjs]; simp
      · rw [List.getElem?_append_right (by rw [hf]; simp [hz]; omega), hf]
        have hj2 : j - size < l.length * size := by
          simp only [List.length_cons, Nat.add_mul, Nat.one_mul] at hj; omega
        have := ih (j - size) hj2
        simp only [Array.length_toList, hz]
        rw [this]
        congr 1
        conv => rhs; rw [show j = j - size + size by omega]
        rw [Nat.add_mod_right]
  apply List.ext_getElem?
  intro j
  by_cases hj : j < n * size
  · rw [key (List.range n) j (by simpa using hj)]
    simp [madeCells, hj]
    rw [Array.getElem?_eq_getElem (by rw [hz]; exact Nat.mod_lt _ hs)]
    simp [hz]
    exact getElem!_pos z.cells (j % size) (by rw [hz]; exact Nat.mod_lt _ hs)
  · rw [List.getElem?_eq_none (by simp [madeCells]; omega), List.getElem?_eq_none (by
      have : ((List.range n).flatMap f).length = n * size := by
        have e : ∀ l : List Nat, (l.flatMap f).length = l.length * size := by
          intro l
          induction l with
          | nil => simp
          | cons a l ih => rw [List.flatMap_cons, List.length_append, ih, hf]; simp [hz, Nat.add_mul]; omega
        rw [e]; simp
      omega)]

theorem Ch.set_midH {α : Type} (l : List α) (zs : List α) (k : Nat) (v : α) (hl : l.length = k) (h : k < zs.length) : (l ++ zs.drop k).set k v = (l ++ [v]) ++ zs.drop (k + 1) := by
  rw [List.set_append_right _ _ (by omega), hl, Nat.sub_self, List.drop_eq_getElem_cons h, List.set_cons_zero]
  simp

theorem made_holds (n : Nat) : (madeCells (Value.agg #[.int .i64 0, .int .i64 0]).cells (n * 2)).toList = hcells (List.replicate n Ch.Hold.zero) := by
  rw [made_cells _ n 2 rfl (by decide) (fun _ => [.int .i64 0, .int .i64 0]) (fun _ => rfl)]
  induction n with
  | zero => rfl
  | succ n ih => rw [List.range_succ, List.flatMap_append, ih, List.replicate_succ', hcells_append]; rfl
def hcopied (rs : List Ch.Hold) (n k : Nat) : List Value := hcells (rs.take k ++ List.replicate (n - k) Ch.Hold.zero)
theorem hcopied_end {rs : List Ch.Hold} {n : Nat} (h : n = rs.length) : hcopied rs n n = hcells rs := by
  subst h; simp [hcopied]
theorem hcopied_set {rs : List Ch.Hold} {n k : Nat} (h : n = rs.length) (hk : k < n) : ((hcopied rs n k).set (k * 2) (.int .i64 (rs.getD k Ch.Hold.zero).t)).set (k * 2 + 1) (.int .i64 (rs.getD k Ch.Hold.zero).m) = hcopied rs n (k + 1) := by
  unfold hcopied
  rw [hcells_set _ _ _ (by simp; omega), fill_set rs _ _ n k h hk]
theorem owns_stored2 {w : World} {base : Nat} {e : TypeId} {size g n cap : Nat} {xs : List Value} (h : w.ownsRow base e size (.slice (some ⟨g, 0, none⟩) n cap) n xs) (j : Nat) (a b : Value) :
    ((w.setCell ⟨g, j, none⟩ a).setCell ⟨g, j + 1, none⟩ b).ownsRow base e size (.slice (some ⟨g, 0, none⟩) n cap) n ((xs.set j a).set (j + 1) b) :=
  ((h.stored j a).1.stored (j + 1) b).1

def hmark (s : Int) (k : Nat) : Ch.Hold := ⟨s + 2 * (k : Int), s + 2 * (k : Int) + 1⟩
def hmarks (s : Int) (n : Nat) : List Ch.Hold := (List.range n).map (hmark s)
theorem hmarks_len (s : Int) (n : Nat) : (hmarks s n).length = n := by simp [hmarks]
theorem hmarks_snoc (s : Int) (n : Nat) : hmarks s (n + 1) = hmarks s n ++ [hmark s n] := by simp [hmarks, List.range_succ]
theorem hmarks_at (s : Int) (n k : Nat) (h : k < n) : (hmarks s n).getD k Ch.Hold.zero = hmark s k := by simp [hmarks, List.getD, h]
def hmarked (s : Int) (rs : List Ch.Hold) (k : Nat) : List Ch.Hold := hmarks s k ++ rs.drop k
theorem hmarked_set (s : Int) (rs : List Ch.Hold) (k : Nat) (h : k < rs.length) :
    ((hcells (hmarked s rs k)).set (k * 2) (.int .i64 (s + 2 * (k : Int)))).set (k * 2 + 1) (.int .i64 (s + 2 * (k : Int) + 1)) = hcells (hmarked s rs (k + 1)) := by
  have := hcells_set (hmarked s rs k) k (hmark s k) (by simp [hmarked, hmarks_len]; omega)
  rw [show hcells (hmarked s rs (k + 1)) = hcells ((hmarked s rs k).set k (hmark s k)) by unfold hmarked; rw [Ch.set_midH _ _ _ _ (hmarks_len s k) h, hmarks_snoc], ← this]
  rfl

theorem frz_of {w : World} {b o : Nat} {c : Array Value} {t : TypeId} (h : w.heap[b]? = some (.cells c t (0, 0))) : w.frozen? ⟨b, o, none⟩ = false := by simp [World.frozen?, h]

theorem row2 {W : World} {g : Nat} {t : TypeId} {u0 u1 : Value} (h : W.heap[g]? = some (.cells #[u0, u1] t (0, 0))) :
    W.cell? ⟨g, 0, none⟩ = some u0 ∧ W.cell? ⟨g, 1, none⟩ = some u1 ∧ W.frozen? ⟨g, 0, none⟩ = false ∧ W.frozen? ⟨g, 1, none⟩ = false :=
  ⟨cell_of_row _ _ _ _ _ _ h, cell_of_row _ _ _ _ _ _ h, frz_of h, frz_of h⟩
theorem new_hold (w : World) (t m : Int) (ty : TypeId) : CellsAt (w.alloc (.cells #[.int .i64 t, .int .i64 m] ty)) (some ⟨w.heap.size, 0, none⟩) (1 * 2) (hcells [⟨t, m⟩]) := by
  refine ⟨rfl, fun _ => ⟨_, _, rfl, fun i hi => ?_⟩⟩
  rw [Nat.zero_add]
  have := cell_of_row (w.alloc (.cells #[.int .i64 t, .int .i64 m] ty)) _ i _ _ _ (heap_alloc_new w _)
  rw [this]
  simp [hcells]

/-- REST -/
theorem hcells_take (hs : List Ch.Hold) (k : Nat) : hcells (hs.take k) = (hcells hs).take (k * 2) := by
  induction hs generalizing k with
  | nil => simp [hcells]
  | cons r rs ih =>
    cases k with
    | zero => simp [hcells]
    | succ k =>
      have := ih k
      simp only [hcells, List.take_succ_cons, List.flatMap_cons] at *
      rw [this, show (k + 1) * 2 = k * 2 + 1 + 1 by omega]
      simp
theorem cut_take {w : World} {a : Option Addr} {m : Nat} {xs : List Value} (h : CellsAt w a m xs) {k : Nat} (hk : k ≤ m) : CellsAt w a k (xs.take k) := by
  refine ⟨by rw [List.length_take, h.1]; omega, fun h0 => ?_⟩
  obtain ⟨b, off, ha, hc⟩ := h.2 (by omega)
  refine ⟨b, off, ha, fun i hi => ?_⟩
  rw [hc i (by omega), List.getElem?_take_of_lt hi]
theorem cut_drop {w : World} {b off m : Nat} {xs : List Value} (h : CellsAt w (some ⟨b, off, none⟩) m xs) {k : Nat} (hk : k ≤ m) : CellsAt w (some ⟨b, off + k, none⟩) (m - k) (xs.drop k) := by
  refine ⟨by rw [List.length_drop, h.1], fun hm => ?_⟩
  obtain ⟨b', off', ha, hc⟩ := h.2 (by omega)
  simp only [Option.some.injEq, Addr.mk.injEq, and_true] at ha
  obtain ⟨rfl, rfl⟩ := ha
  refine ⟨b, off + k, rfl, fun i hi => ?_⟩
  rw [List.getElem?_drop, Nat.add_assoc, hc _ (by omega)]
theorem hcut_drop (hs : List Ch.Hold) (k : Nat) (h : k ≤ hs.length) : hcells (hs.drop k) = (hcells hs).drop (k * 2) := by
  have e : hcells hs = hcells (hs.take k) ++ hcells (hs.drop k) := by rw [← hcells_append, List.take_append_drop]
  have e2 : (hcells (hs.take k)).length = k * 2 := by rw [hcells_len]; simp; omega
  rw [e, ← e2, List.drop_left]
theorem own_at {w : World} {base : Nat} {e : TypeId} {size : Nat} {a : Option Addr} {n c : Nat} {xs : List Value} (h : w.ownsRow base e size (.slice a n c) n xs) (h0 : 0 < n) : ∃ g, a = some ⟨g, 0, none⟩ := by
  rcases h.2 with ⟨hv, h1⟩ | ⟨g, cp, cur, hv, _⟩
  · omega
  · simp only [Value.slice.injEq] at hv; exact ⟨g, hv.1⟩

theorem owns_cap {w : World} {B : Nat} {e : TypeId} {size : Nat} {a : Option Addr} {n cap : Nat} {xs : List Value} (h : w.ownsRow B e size (.slice a n cap) n xs) : n ≤ cap := by
  rcases h.2 with ⟨hv, h0⟩ | ⟨g, cp, cur, hv, _, _, h1, _⟩
  · omega
  · simp only [Value.slice.injEq, true_and] at hv
    obtain ⟨_, rfl⟩ := hv
    exact h1

end Go.Proofs.YtalhmogaogaekaaDoor
