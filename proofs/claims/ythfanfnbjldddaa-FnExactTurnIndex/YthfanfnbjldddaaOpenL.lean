
/- Lists of rows and of leaves that came in, opened. -/
import Derived.Test.YthfanfnbjldddaaLvB
import Derived.ProofKit
import Derived.OpenShut
import Derived.ChangeOld
import Derived.Lib.SmallJoins
import Derived.Deep.Fields
import Derived.Deep.Slices
import Derived.Deep.Strs
namespace Go.Proofs.Ythfanfnbjldddaa
open Go.ChangeShapes Go.WideShapes Go.ChangeAt Go.RowKit Go.Joins Go.Deep

theorem Try.own : ownKnob Try.prog.godebug = none := by kernel_rfl
theorem Try.laidOut : laidOutB Try.prog = true := by kernel_rfl
theorem Try.cellsRows : Try.prog.cellsOf 121 = 1 := by kernel_rfl

theorem rcells_map (f : Nat → Ch.Row) (n i : Nat) (hi : i < n * 3) : (rcells ((List.range n).map f))[i]? = if i % 3 = 0 then some (.int .i64 (f (i / 3)).k) else if i % 3 = 1 then some (.int .i64 (f (i / 3)).v) else some (.bool (f (i / 3)).g) := by
  have hq : i / 3 < n := by omega
  obtain ⟨h0, h1, h2⟩ := rcells_at ((List.range n).map f) (i / 3) (by simpa using hq)
  have e : ((List.range n).map f).getD (i / 3) Ch.Row.zero = f (i / 3) := by simp [List.getD, hq]
  rw [e] at h0 h1 h2
  have hm : i % 3 = 0 ∨ i % 3 = 1 ∨ i % 3 = 2 := by omega
  rcases hm with hm | hm | hm
  · rw [if_pos hm, ← h0]; congr 1; omega
  · rw [if_neg (by omega), if_pos hm, ← h1]; congr 1; omega
  · rw [if_neg (by omega), if_neg (by omega), ← h2]; congr 1; omega

set_option maxRecDepth 100000 in
theorem open_rowsF {H : Type} {enc : TypeId × Value → H} {w : World} {base : Nat} {spare : Nat → Bool} {held : Bool} {a : Option Addr} {len cap fuel : Nat} {y : DataW H × List MemPlace}
    (hk : Try.prog.cellsOf 168 = 3) (k2 : Try.prog.cellsOf 2 = 1) (k4 : Try.prog.cellsOf 4 = 1) (hf : DataW.trod enc Try.prog w base spare held fuel 121 [.slice a len cap] = some y) : (∃ rs, CellsAt w a (len * 3) (rcells rs)) ∧ len ≤ maxLen := by
  rcases Deep.open_slice Try.underlying121 hf with ⟨hcs, _⟩ | ⟨x, l, c, m, n, D, Pl, hcs, hb, hl, hm, hmm, _, hx⟩
  · simp at hcs
    obtain ⟨rfl, rfl, rfl⟩ := hcs
    exact ⟨⟨[], rfl, fun h => absurd h (by simp)⟩, by simp⟩
  · simp at hcs
    obtain ⟨rfl, rfl, rfl⟩ := hcs
    refine ⟨?_, by omega⟩
    have hlm : len ≤ m := by rw [hmm]; split <;> omega
    rw [hk] at hx
    obtain ⟨f, hf⟩ := @Deep.choose_lt Ch.Row ⟨Ch.Row.zero⟩ len (fun i r => w.cell? (x.add (i * 3)) = some (.int .i64 r.k) ∧ w.cell? (x.add (i * 3 + 1)) = some (.int .i64 r.v) ∧ w.cell? (x.add (i * 3 + 2)) = some (.bool r.g)) (fun i hi => by
      obtain ⟨cs', h1, h2⟩ := hx i (by omega)
      obtain ⟨_, hlen, hcell⟩ := World.cells?_some h1
      obtain ⟨y0, y1, y2, n', _, _, g0, g1, g2⟩ := Deep.trod_struct3 Try.underlying168 h2
      match cs', hlen with
      | [c0, c1, c2], _ =>
        simp only [k2, k4, List.drop_zero, List.take_succ_cons, List.take_zero, List.drop_succ_cons] at g0 g1 g2
        obtain ⟨rk, e0, _, _⟩ := DataW.trod_int Try.underlying2 g0
        obtain ⟨rv, e1, _, _⟩ := DataW.trod_int Try.underlying2 g1
        obtain ⟨rg, e2, _⟩ := DataW.trod_bool Try.underlying4 g2
        simp only [List.cons.injEq, and_true] at e0 e1 e2
        subst e0 e1 e2
        have q0 := hcell 0 (by omega)
        have q1 := hcell 1 (by omega)
        have q2 := hcell 2 (by omega)
        rw [Deep.add_add] at q0 q1 q2
        exact ⟨⟨rk, rv, rg⟩, q0, q1, q2⟩)
    refine ⟨(List.range len).map f, by rw [rcells_len]; simp, fun hpos => ?_⟩
    obtain ⟨b, off, spot⟩ := x
    have hspot : spot = none := by
      have := World.cell?_spot (hf 0 (by omega)).1
      simpa [Addr.add] using this
    subst hspot
    refine ⟨b, off, rfl, fun i hi => ?_⟩
    rw [rcells_map f len i hi]
    obtain ⟨q0, q1, q2⟩ := hf (i / 3) (by omega)
    simp only [add_plain] at q0 q1 q2
    have hm3 : i % 3 = 0 ∨ i % 3 = 1 ∨ i % 3 = 2 := by omega
    rcases hm3 with h3 | h3 | h3
    · rw [if_pos h3, ← q0]; congr 2; omega
    · rw [if_neg (by omega), if_pos h3, ← q1]; congr 2; omega
    · rw [if_neg (by omega), if_neg (by omega), ← q2]; congr 2; omega

set_option maxRecDepth 100000 in
/-- A list of leaves that came in, opened. -/
theorem open_leaves {H : Type} {enc : TypeId × Value → H} {w : World} {base : Nat} {spare : Nat → Bool} {held : Bool} {a : Option Addr} {len cap : Nat} {d : DataW H} {p : List MemPlace}
    (h : DataW.Trod enc Try.prog w base spare held 68 (.slice a len cap) d p) : (∃ ls, LvAt w a len ls) ∧ len ≤ 9223372036854775807 := by
  obtain ⟨fuel, hf⟩ := h
  rcases open_slice1 Try.underlying68 (by kernel_rfl) hf with ⟨hcs, _⟩ | ⟨x, l, c, m, n, V, D, Pl, hcs, hb, hl, hm, hmm, _, hx⟩
  · simp [Value.cells] at hcs
    obtain ⟨rfl, rfl, rfl⟩ := hcs
    exact ⟨⟨[], rfl, [], ⟨rfl, fun h => absurd h (by simp)⟩, fun i hi => absurd hi (by simp)⟩, by simp⟩
  · simp [Value.cells] at hcs
    obtain ⟨rfl, rfl, rfl⟩ := hcs
    have hlm : len ≤ m := by rw [hmm]; split <;> omega
    refine ⟨?_, by unfold maxLen at hm; omega⟩
    obtain ⟨f, hf⟩ := @Deep.choose_lt (List Ch.Row) ⟨[]⟩ len (fun i r => ∃ ai ni ci, V i = .slice ai ni ci ∧ CellsAt w ai (ni * 3) (rcells r) ∧ ni ≤ 9223372036854775807) (fun i hi => by
      obtain ⟨h1, h2⟩ := hx i (by omega)
      obtain ⟨xs, n', _, _, hlen, hl1, hg⟩ := DataW.trod_struct Try.underlying123 h2
      match xs, hl1 with
      | [y0], _ =>
        have g0 : DataW.trod enc Try.prog w base spare held n' 121 [V i] = some y0 := by simpa [Try.cellsRows] using hg 0 _ rfl
        obtain ⟨ai, ni, ci, e⟩ := slice_form Try.underlying121 g0
        simp at e
        rw [e] at g0
        obtain ⟨⟨rs, hr⟩, hni⟩ := open_rowsF (by kernel_rfl) (by kernel_rfl) (by kernel_rfl) g0
        exact ⟨rs, ai, ni, ci, e, hr, by unfold maxLen at hni; exact hni⟩)
    refine ⟨(List.range len).map f, by simp, (List.range len).map V, ⟨by simp, fun hpos => ?_⟩, fun i hi => ?_⟩
    · obtain ⟨b, off, spot⟩ := x
      have hspot : spot = none := by
        have := World.cell?_spot (hx 0 (by omega)).1
        simpa [Addr.add] using this
      subst hspot
      refine ⟨b, off, rfl, fun i hi => ?_⟩
      have := (hx i (by omega)).1
      rw [add_plain] at this
      rw [this]
      simp [hi]
    · obtain ⟨ai, ni, ci, e, hr, hni⟩ := hf i hi
      refine ⟨ai, ni, ci, by simp [hi, e], ?_, hni⟩
      have e2 : ((List.range len).map f).getD i [] = f i := by simp [List.getD, hi]
      rw [e2]
      exact hr
end Go.Proofs.Ythfanfnbjldddaa
