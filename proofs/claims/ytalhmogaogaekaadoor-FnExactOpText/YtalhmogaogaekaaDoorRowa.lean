
/- Walks of functions on rows: bounds, faults, copies, comparisons, marks. -/
import Derived.Test.YtalhmogaogaekaaDoorProg
import Derived.Test.YtalhmogaogaekaaDoorMath
import Derived.Test.YtalhmogaogaekaaDoorBase
import Derived.Deep.QuietTactic
import Derived.BigQuiet
import Derived.Deep.RegionWith
import Derived.Deep.RegionHeld3
import Derived.Deep.AppendLies
namespace Go.Proofs.YtalhmogaogaekaaDoor
open Go.RowKit

theorem in_any (v lo hi : Int) (w : World) :
    Calls Tryd.prog 30 #[.int .i64 v, .int .i64 lo, .int .i64 hi] w fun e w' => e = .returned (.bool (Ch.inB v lo hi)) ∧ w' = w := by
  unfold Ch.inB
  by_cases h1 : lo ≤ v
  all_goals by_cases h2 : v ≤ hi
  all_goals
    go_enter Tryd.func30, Tryd.ntmps30
    go_wp2
    go_ret
    exact ⟨by simp [h1, h2], rfl⟩

theorem key_any (v : Int) (w : World) :
    Calls Tryd.prog 31 #[.int .i64 v] w fun e w' => e = .returned (.bool (Ch.inB v 0 99)) ∧ w' = w := by
  go_enter Tryd.func31, Tryd.ntmps31
  go_wp2_with (go_at_call 30; refine (in_any _ _ _ _).mono ?_; rintro e w' ⟨rfl, rfl⟩)
  go_ret
  exact ⟨rfl, rfl⟩

theorem value_any (v : Int) (w : World) :
    Calls Tryd.prog 32 #[.int .i64 v] w fun e w' => e = .returned (.bool (Ch.inB v 0 9999)) ∧ w' = w := by
  go_enter Tryd.func32, Tryd.ntmps32
  go_wp2_with (go_at_call 30; refine (in_any _ _ _ _).mono ?_; rintro e w' ⟨rfl, rfl⟩)
  go_ret
  exact ⟨rfl, rfl⟩

theorem isKey_any (v : Int) (w : World) :
    Calls Tryd.prog 41 #[.int .i64 v] w fun e w' => e = .returned (.bool (Ch.inB v 0 99)) ∧ w' = w := by
  unfold Ch.inB
  by_cases h1 : 0 ≤ v
  all_goals by_cases h2 : v ≤ 99
  all_goals
    go_enter Tryd.func41, Tryd.ntmps41
    go_wp2
    go_ret
    exact ⟨by simp [h1, h2], rfl⟩

theorem isValue_any (v : Int) (w : World) :
    Calls Tryd.prog 42 #[.int .i64 v] w fun e w' => e = .returned (.bool (Ch.inB v 0 9999)) ∧ w' = w := by
  unfold Ch.inB
  by_cases h1 : 0 ≤ v
  all_goals by_cases h2 : v ≤ 9999
  all_goals
    go_enter Tryd.func42, Tryd.ntmps42
    go_wp2
    go_ret
    exact ⟨by simp [h1, h2], rfl⟩

theorem ret_int {k : IntKind} {a b : Int} (h : a = b) : Ending.returned (.int k a) = .returned (.int k b) := by rw [h]

theorem hid {p : Prop} (h : p) : Hid p := h

theorem gr_trans {a b c : World} {g : Nat} (h : a.grownBy b (some g)) (k : b.grownBy c (some g)) : a.grownBy c (some g) :=
  ⟨k.os.trans h.os, k.tape.trans h.tape, k.output.trans h.output, Nat.le_trans h.size k.size, fun j hj hne => (k.block j (Nat.lt_of_lt_of_le hj h.size) hne).trans (h.block j hj hne)⟩

theorem owns_lt {w : World} {base : Nat} {e : TypeId} {size : Nat} {v : Value} {n : Nat} {xs : List Value} (h : w.ownsRow base e size v n xs) (g : Nat) (hg : v.ownBlock = some g) : base ≤ g ∧ g < w.heap.size := by
  rcases h.2 with ⟨hv, _⟩ | ⟨g', cap', cur, hv, hb, hh, _⟩
  · subst hv; simp [Value.ownBlock] at hg
  · subst hv
    simp [Value.ownBlock] at hg
    subst hg
    refine ⟨hb, ?_⟩
    by_cases hlt : g' < w.heap.size
    · exact hlt
    · rw [Array.getElem?_eq_none (by omega)] at hh; cases hh

theorem owns_grown {w w' : World} {base : Nat} {e : TypeId} {size : Nat} {v : Value} {n : Nat} {xs : List Value} {row : Option Nat} (h : w.ownsRow base e size v n xs) (hg : w.grownBy w' row) (hne : ∀ g, v.ownBlock = some g → row ≠ some g) : w'.ownsRow base e size v n xs := by
  refine ⟨h.1, ?_⟩
  rcases h.2 with h' | ⟨g, cap, cur, hv, hb, hh, h1, h2, h3, h4⟩
  · exact .inl h'
  · refine .inr ⟨g, cap, cur, hv, hb, ?_, h1, h2, h3, h4⟩
    have hlt := (owns_lt h g (by rw [hv]; rfl)).2
    have := hne g (by rw [hv]; rfl)
    rw [hg.block g hlt (fun e => this e.symm)]; exact hh

theorem grown_cell {w w' : World} {row : Option Nat} (hg : w.grownBy w' row) {b o : Nat} {v : Value} (h : w.cell? ⟨b, o, none⟩ = some v) (hne : row ≠ some b) : w'.cell? ⟨b, o, none⟩ = some v :=
  (World.grownBy.cell_far hg ⟨b, o, none⟩ (lt_of_cell h) (fun e => hne e.symm)).trans h

theorem cells_grown {w w' : World} {row : Option Nat} {a : Option Addr} {m : Nat} {xs : List Value} (h : CellsAt w a m xs) (hg : w.grownBy w' row) (hB : ∀ b off, a = some ⟨b, off, none⟩ → row ≠ some b) : CellsAt w' a m xs := by
  refine ⟨h.1, fun hm => ?_⟩
  obtain ⟨b, off, ha, hc⟩ := h.2 hm
  refine ⟨b, off, ha, fun i hi => ?_⟩
  have hx : xs[i]? = some (xs[i]'(by rw [h.1]; exact hi)) := by simp
  rw [hx]
  exact grown_cell hg ((hc i hi).trans hx) (hB b off ha)

theorem gr_alloc {w w' : World} {o : Obj} {row : Option Nat} (h : (w.alloc o).grownBy w' row) : w.grownBy w' row :=
  ⟨h.os, h.tape, h.output, by have := h.size; simp at this; omega, fun k hk hne => (h.block k (by simp; omega) hne).trans (Below.heap_alloc w o k hk)⟩

theorem Ch.set_mid {α : Type} (l : List α) (zs : List α) (k : Nat) (v : α) (hl : l.length = k) (h : k < zs.length) : (l ++ zs.drop k).set k v = (l ++ [v]) ++ zs.drop (k + 1) := by
  rw [List.set_append_right _ _ (by omega), hl, Nat.sub_self, List.drop_eq_getElem_cons h, List.set_cons_zero]
  simp

/-- What the copy holds behind k rounds. -/
def rcopied (rs : List Ch.Row) (n k : Nat) : List Value := rcells (rs.take k ++ List.replicate (n - k) Ch.Row.zero)

theorem rcopied_end {rs : List Ch.Row} {n : Nat} (h : n = rs.length) : rcopied rs n n = rcells rs := by
  subst h; simp [rcopied]

theorem rcopied_set {rs : List Ch.Row} {n k : Nat} (h : n = rs.length) (hk : k < n) : (((rcopied rs n k).set (k * 3) (.int .i64 (rs.getD k Ch.Row.zero).k)).set (k * 3 + 1) (.int .i64 (rs.getD k Ch.Row.zero).v)).set (k * 3 + 2) (.bool (rs.getD k Ch.Row.zero).g) = rcopied rs n (k + 1) := by
  unfold rcopied
  rw [rcells_set _ _ _ (by simp; omega), fill_set rs _ _ n k h hk]

theorem returned_int {k : IntKind} {a b : Int} (h : a = b) : Ending.returned (.int k a) = .returned (.int k b) := by rw [h]

/-- The marks that a law writes into rows, the first one s. -/
def rmark (s : Int) (k : Nat) : Ch.Row := ⟨s + 3 * (k : Int), s + 3 * (k : Int) + 1, (s + 3 * (k : Int) + 1 + 1) % 3 == 0⟩
def rmarks (s : Int) (n : Nat) : List Ch.Row := (List.range n).map (rmark s)
theorem rmarks_len (s : Int) (n : Nat) : (rmarks s n).length = n := by simp [rmarks]
theorem rmarks_snoc (s : Int) (n : Nat) : rmarks s (n + 1) = rmarks s n ++ [rmark s n] := by simp [rmarks, List.range_succ]
theorem rmarks_at (s : Int) (n k : Nat) (h : k < n) : (rmarks s n).getD k Ch.Row.zero = rmark s k := by simp [rmarks, List.getD, h]
/-- The rows behind k marks. -/
def rmarked (s : Int) (rs : List Ch.Row) (k : Nat) : List Ch.Row := rmarks s k ++ rs.drop k
theorem rmarked_set (s : Int) (rs : List Ch.Row) (k : Nat) (h : k < rs.length) :
    (((rcells (rmarked s rs k)).set (k * 3) (.int .i64 (s + 3 * (k : Int)))).set (k * 3 + 1) (.int .i64 (s + 3 * (k : Int) + 1))).set (k * 3 + 2) (.bool ((s + 3 * (k : Int) + 1 + 1) % 3 == 0)) = rcells (rmarked s rs (k + 1)) := by
  have := rcells_set (rmarked s rs k) k (rmark s k) (by simp [rmarked, rmarks_len]; omega)
  rw [show rcells (rmarked s rs (k + 1)) = rcells ((rmarked s rs k).set k (rmark s k)) by unfold rmarked; rw [Ch.set_mid _ _ _ _ (rmarks_len s k) h, rmarks_snoc], ← this]
  rfl

theorem rmarks_cells {s : Int} {w : World} {a : Option Addr} {n : Nat} (h : CellsAt w a (n * 3) (rcells (rmarks s n))) {k : Nat} (hk : k < n) :
    ∃ b off, a = some ⟨b, off, none⟩ ∧ w.cell? ⟨b, off + k * 3, none⟩ = some (.int .i64 (s + 3 * (k : Int))) ∧ w.cell? ⟨b, off + k * 3 + 1, none⟩ = some (.int .i64 (s + 3 * (k : Int) + 1)) ∧ w.cell? ⟨b, off + k * 3 + 2, none⟩ = some (.bool ((s + 3 * (k : Int) + 1 + 1) % 3 == 0)) := by
  obtain ⟨b, off, ha, h0, h1, h2⟩ := h.row hk
  rw [rmarks_at s n k hk] at h0 h1 h2
  exact ⟨b, off, ha, h0, h1, h2⟩

end Go.Proofs.YtalhmogaogaekaaDoor
