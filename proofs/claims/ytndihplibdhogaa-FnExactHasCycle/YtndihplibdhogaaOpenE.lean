/- Lists of edges that came in, opened. -/
import Derived.Test.YtndihplibdhogaaHd
import Derived.ProofKit
import Derived.OpenShut
import Derived.ChangeOld
import Derived.Lib.SmallJoins
import Derived.Deep.Fields
import Derived.Deep.Slices
import Derived.Deep.Strs
namespace Go.Proofs.Ytndihplibdhogaa
open Go.ChangeShapes Go.WideShapes Go.ChangeAt Go.RowKit Go.Joins Go.Deep

theorem Try.own : ownKnob Try.prog.godebug = none := by kernel_rfl
theorem Try.laidOut : laidOutB Try.prog = true := by kernel_rfl
theorem hcells_map (f : Nat → Ch.Hold) (n i : Nat) (hi : i < n * 2) : (hcells ((List.range n).map f))[i]? = if i % 2 = 0 then some (.int .i64 (f (i / 2)).t) else some (.int .i64 (f (i / 2)).m) := by
  have hq : i / 2 < n := by omega
  obtain ⟨h0, h1⟩ := hcells_at ((List.range n).map f) (i / 2) (by simpa using hq)
  have e : ((List.range n).map f).getD (i / 2) Ch.Hold.zero = f (i / 2) := by simp [List.getD, hq]
  rw [e] at h0 h1
  have hm : i % 2 = 0 ∨ i % 2 = 1 := by omega
  rcases hm with hm | hm
  · rw [if_pos hm, ← h0]; congr 1; omega
  · rw [if_neg (by omega), ← h1]; congr 1; omega

set_option maxRecDepth 100000 in
theorem open_edgesF {H : Type} {enc : TypeId × Value → H} {w : World} {base : Nat} {spare : Nat → Bool} {held : Bool} {a : Option Addr} {len cap fuel : Nat} {y : DataW H × List MemPlace}
    (hk : Try.prog.cellsOf 57 = 2) (k2 : Try.prog.cellsOf 2 = 1) (hf : DataW.trod enc Try.prog w base spare held fuel 39 (Value.slice a len cap).cells.toList = some y) : (∃ rs, CellsAt w a (len * 2) (hcells rs)) ∧ len ≤ 9223372036854775807 := by
  rcases Deep.open_slice Try.underlying39 hf with ⟨hcs, _⟩ | ⟨x, l, c, m, n, D, Pl, hcs, hb, hl, hm, hmm, _, hx⟩
  · simp [Value.cells] at hcs
    obtain ⟨rfl, rfl, rfl⟩ := hcs
    exact ⟨⟨[], rfl, fun h => absurd h (by simp)⟩, by simp⟩
  · simp [Value.cells] at hcs
    obtain ⟨rfl, rfl, rfl⟩ := hcs
    have hlm : len ≤ m := by rw [hmm]; split <;> omega
    refine ⟨?_, by unfold maxLen at hm; omega⟩
    rw [hk] at hx
    obtain ⟨f, hf⟩ := @Deep.choose_lt Ch.Hold ⟨Ch.Hold.zero⟩ len (fun i r => w.cell? (x.add (i * 2)) = some (.int .i64 r.t) ∧ w.cell? (x.add (i * 2 + 1)) = some (.int .i64 r.m)) (fun i hi => by
      obtain ⟨cs', h1, h2⟩ := hx i (by omega)
      obtain ⟨_, hlen, hcell⟩ := World.cells?_some h1
      obtain ⟨xs, n', _, _, hlen2, hl1, hg⟩ := DataW.trod_struct Try.underlying57 h2
      match cs', hlen, xs, hl1 with
      | [c0, c1], _, [y0, y1], _ =>
        have g0 : DataW.trod enc Try.prog w base spare held n' 2 [c0] = some y0 := by simpa [k2] using hg 0 _ rfl
        have g1 : DataW.trod enc Try.prog w base spare held n' 2 [c1] = some y1 := by simpa [k2] using hg 1 _ rfl
        obtain ⟨rk, e0, _, _⟩ := DataW.trod_int Try.underlying2 g0
        obtain ⟨rv, e1, _, _⟩ := DataW.trod_int Try.underlying2 g1
        simp only [List.cons.injEq, and_true] at e0 e1
        subst e0 e1
        have q0 := hcell 0 (by omega)
        have q1 := hcell 1 (by omega)
        rw [Deep.add_add] at q0 q1
        exact ⟨⟨rk, rv⟩, q0, q1⟩)
    refine ⟨(List.range len).map f, by rw [hcells_len]; simp, fun hpos => ?_⟩
    obtain ⟨b, off, spot⟩ := x
    have hspot : spot = none := by
      have := World.cell?_spot (hf 0 (by omega)).1
      simpa [Addr.add] using this
    subst hspot
    refine ⟨b, off, rfl, fun i hi => ?_⟩
    rw [hcells_map f len i hi]
    obtain ⟨q0, q1⟩ := hf (i / 2) (by omega)
    simp only [add_plain] at q0 q1
    have hm3 : i % 2 = 0 ∨ i % 2 = 1 := by omega
    rcases hm3 with h3 | h3
    · rw [if_pos h3, ← q0]; congr 2; omega
    · rw [if_neg (by omega), ← q1]; congr 2; omega
theorem open_edges {H : Type} {enc : TypeId × Value → H} {w : World} {base : Nat} {spare : Nat → Bool} {held : Bool} {a : Option Addr} {len cap : Nat} {d : DataW H} {p : List MemPlace}
    (h : DataW.Trod enc Try.prog w base spare held 39 (.slice a len cap) d p) : (∃ rs, CellsAt w a (len * 2) (hcells rs)) ∧ len ≤ 9223372036854775807 := by
  obtain ⟨fuel, hf⟩ := h
  exact open_edgesF (by kernel_rfl) (by kernel_rfl) hf
end Go.Proofs.Ytndihplibdhogaa
