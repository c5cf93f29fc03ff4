/- Lists of numbers and of edges that came in, opened. -/
import Derived.Test.YtbeolkklnlljcaaOpenK
import Derived.Test.YtbeolkklnlljcaaVicW
namespace Go.Proofs.Ytbeolkklnlljcaa
open Go.ChangeShapes Go.WideShapes Go.ChangeAt Go.RowKit Go.Joins Go.Deep

theorem wf_range {z : Int} (h : (Lit.int .i64 z).wf = true) : -9223372036854775808 ≤ z ∧ z ≤ 9223372036854775807 := by
  simp [Lit.wf, IntKind.min, IntKind.max, IntKind.signed, IntKind.bits] at h
  omega
set_option maxRecDepth 100000 in
theorem open_intsF {H : Type} {enc : TypeId × Value → H} {w : World} {base : Nat} {spare : Nat → Bool} {held : Bool} {a : Option Addr} {len cap : Nat} {d : DataW H} {p : List MemPlace}
    (k2 : Try.prog.cellsOf 2 = 1) (h : DataW.Trod enc Try.prog w base spare held 27 (.slice a len cap) d p) : (∃ zs, CellsAt w a (len * 1) (icells zs) ∧ IsW zs) ∧ len ≤ 9223372036854775807 := by
  obtain ⟨fuel, hf⟩ := h
  rcases Deep.open_slice Try.underlying27 hf with ⟨hcs, _⟩ | ⟨x, l, c, m, n, D, Pl, hcs, hb, hl, hm, hmm, _, hx⟩
  · simp [Value.cells] at hcs
    obtain ⟨rfl, rfl, rfl⟩ := hcs
    exact ⟨⟨[], ⟨rfl, fun h => absurd h (by simp)⟩, fun z hz => by simp at hz⟩, by simp⟩
  · simp [Value.cells] at hcs
    obtain ⟨rfl, rfl, rfl⟩ := hcs
    have hlm : len ≤ m := by rw [hmm]; split <;> omega
    refine ⟨?_, by unfold maxLen at hm; omega⟩
    rw [k2] at hx
    obtain ⟨f, hf⟩ := @Deep.choose_lt Int ⟨0⟩ len (fun i r => w.cell? (x.add (i * 1)) = some (.int .i64 r) ∧ -9223372036854775808 ≤ r ∧ r ≤ 9223372036854775807) (fun i hi => by
      obtain ⟨cs', h1, h2⟩ := hx i (by omega)
      obtain ⟨_, hlen, hcell⟩ := World.cells?_some h1
      match cs', hlen with
      | [c0], _ =>
        obtain ⟨rk, e0, _, hw⟩ := DataW.trod_int Try.underlying2 h2
        simp only [List.cons.injEq, and_true] at e0
        subst e0
        have q0 := hcell 0 (by omega)
        rw [Deep.add_add] at q0
        exact ⟨rk, q0, wf_range hw⟩)
    refine ⟨(List.range len).map f, ⟨by simp [icells_len], fun hpos => ?_⟩, fun z hz => ?_⟩
    · obtain ⟨b, off, spot⟩ := x
      have hspot : spot = none := by
        have := World.cell?_spot (hf 0 (by omega)).1
        simpa [Addr.add] using this
      subst hspot
      refine ⟨b, off, rfl, fun i hi => ?_⟩
      obtain ⟨q0, _⟩ := hf i (by omega)
      simp only [add_plain] at q0
      rw [Nat.mul_one] at q0
      rw [q0]
      simp [icells, show i < len by omega]
    · obtain ⟨i, hi, rfl⟩ := List.mem_map.1 hz
      exact (hf i (List.mem_range.1 hi)).2
theorem open_ints {H : Type} {enc : TypeId × Value → H} {w : World} {base : Nat} {spare : Nat → Bool} {held : Bool} {a : Option Addr} {len cap : Nat} {d : DataW H} {p : List MemPlace}
    (h : DataW.Trod enc Try.prog w base spare held 27 (.slice a len cap) d p) : (∃ zs, CellsAt w a (len * 1) (icells zs) ∧ IsW zs) ∧ len ≤ 9223372036854775807 := open_intsF (by kernel_rfl) h

set_option maxRecDepth 100000 in
theorem open_edgesF {H : Type} {enc : TypeId × Value → H} {w : World} {base : Nat} {spare : Nat → Bool} {held : Bool} {a : Option Addr} {len cap fuel : Nat} {y : DataW H × List MemPlace}
    (hk : Try.prog.cellsOf 138 = 2) (k2 : Try.prog.cellsOf 2 = 1) (hf : DataW.trod enc Try.prog w base spare held fuel 68 (Value.slice a len cap).cells.toList = some y) : (∃ rs, CellsAt w a (len * 2) (hcells rs)) ∧ len ≤ 9223372036854775807 := by
  rcases Deep.open_slice Try.underlying68 hf with ⟨hcs, _⟩ | ⟨x, l, c, m, n, D, Pl, hcs, hb, hl, hm, hmm, _, hx⟩
  · simp [Value.cells] at hcs
    obtain ⟨rfl, rfl, rfl⟩ := hcs
    exact ⟨⟨[], rfl, fun h => absurd h (by simp)⟩, by simp⟩
  · simp [Value.cells] at hcs
    obtain ⟨rfl, rfl, rfl⟩ := hcs
    have hlm : len ≤ m := by rw [hmm]; split <;> omega
    refine ⟨?_, by unfold maxLen at hm; omega⟩
    rw [hk] at hx
    obtain ⟨f, hf⟩ := @Deep.choose_lt Ch.Hold ⟨Ch.Hold.zero⟩ len (fun i r => w.cell? (x.add (i * 2)) = some (.int .i64 r.t) ∧ w.cell? (x.add (i * 2 + 1)) = some (.int .i64 r.m)) (fun i hi => by
      obtain ⟨cs', h1, h2⟩ := hx i (by omega)
      obtain ⟨_, hlen, hcell⟩ := World.cells?_some h1
      obtain ⟨xs, n', _, _, hlen2, hl1, hg⟩ := DataW.trod_struct Try.underlying138 h2
      match cs', hlen, xs, hl1 with
      | [c0, c1], _, [y0, y1], _ =>
        have g0 : DataW.trod enc Try.prog w base spare held n' 2 [c0] = some y0 := by simpa [k2] using hg 0 _ rfl
        have g1 : DataW.trod enc Try.prog w base spare held n' 2 [c1] = some y1 := by simpa [k2] using hg 1 _ rfl
        obtain ⟨rk, e0, _, _⟩ := DataW.trod_int Try.underlying2 g0
        obtain ⟨rv, e1, _, _⟩ := DataW.trod_int Try.underlying2 g1
        simp only [List.cons.injEq, and_true] at e0 e1
        subst e0 e1
        have q0 := hcell 0 (by omega)
        have q1 := hcell 1 (by omega)
        rw [Deep.add_add] at q0 q1
        exact ⟨⟨rk, rv⟩, q0, q1⟩)
    refine ⟨(List.range len).map f, by rw [hcells_len]; simp, fun hpos => ?_⟩
    obtain ⟨b, off, spot⟩ := x
    have hspot : spot = none := by
      have := World.cell?_spot (hf 0 (by omega)).1
      simpa [Addr.add] using this
    subst hspot
    refine ⟨b, off, rfl, fun i hi => ?_⟩
    rw [hcells_map f len i hi]
    obtain ⟨q0, q1⟩ := hf (i / 2) (by omega)
    simp only [add_plain] at q0 q1
    have hm3 : i % 2 = 0 ∨ i % 2 = 1 := by omega
    rcases hm3 with h3 | h3
    · rw [if_pos h3, ← q0]; congr 2; omega
    · rw [if_neg (by omega), ← q1]; congr 2; omega
theorem open_edges {H : Type} {enc : TypeId × Value → H} {w : World} {base : Nat} {spare : Nat → Bool} {held : Bool} {a : Option Addr} {len cap : Nat} {d : DataW H} {p : List MemPlace}
    (h : DataW.Trod enc Try.prog w base spare held 68 (.slice a len cap) d p) : (∃ rs, CellsAt w a (len * 2) (hcells rs)) ∧ len ≤ 9223372036854775807 := by
  obtain ⟨fuel, hf⟩ := h
  exact open_edgesF (by kernel_rfl) (by kernel_rfl) hf
end Go.Proofs.Ytbeolkklnlljcaa
