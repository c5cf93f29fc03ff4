/- Lists of acts that came in, opened. -/
import Derived.Test.YtlpncikiaojmiaaOpen
import Derived.Test.YtlpncikiaojmiaaAcB
import Derived.Deep.Fields
import Derived.Deep.Slices
namespace Go.Proofs.Ytlpncikiaojmiaa
open Go.ChangeShapes Go.WideShapes Go.ChangeAt Go.RowKit Go.Joins Go.Deep

theorem Try.cellsInts : Try.prog.cellsOf 24 = 1 := by kernel_rfl

set_option maxRecDepth 100000 in
theorem open_intsA {H : Type} {enc : TypeId × Value → H} {w : World} {base : Nat} {spare : Nat → Bool} {held : Bool} {a : Option Addr} {len cap fuel : Nat} {y : DataW H × List MemPlace}
    (k2 : Try.prog.cellsOf 2 = 1) (hf : DataW.trod enc Try.prog w base spare held fuel 24 [.slice a len cap] = some y) : (∃ zs, CellsAt w a (len * 1) (icells zs)) ∧ len ≤ 9223372036854775807 := by
  rcases Deep.open_slice Try.underlying24 hf with ⟨hcs, _⟩ | ⟨x, l, c, m, n, D, Pl, hcs, hb, hl, hm, hmm, _, hx⟩
  · simp at hcs
    obtain ⟨rfl, rfl, rfl⟩ := hcs
    exact ⟨⟨[], ⟨rfl, fun h => absurd h (by simp)⟩⟩, by simp⟩
  · simp at hcs
    obtain ⟨rfl, rfl, rfl⟩ := hcs
    have hlm : len ≤ m := by rw [hmm]; split <;> omega
    refine ⟨?_, by unfold maxLen at hm; omega⟩
    rw [k2] at hx
    obtain ⟨f, hf⟩ := @Deep.choose_lt Int ⟨0⟩ len (fun i r => w.cell? (x.add (i * 1)) = some (.int .i64 r)) (fun i hi => by
      obtain ⟨cs', h1, h2⟩ := hx i (by omega)
      obtain ⟨_, hlen, hcell⟩ := World.cells?_some h1
      match cs', hlen with
      | [c0], _ =>
        obtain ⟨rk, e0, _, hw⟩ := DataW.trod_int Try.underlying2 h2
        simp only [List.cons.injEq, and_true] at e0
        subst e0
        have q0 := hcell 0 (by omega)
        rw [Deep.add_add] at q0
        exact ⟨rk, q0⟩)
    refine ⟨(List.range len).map f, ⟨by simp [icells_len], fun hpos => ?_⟩⟩
    obtain ⟨b, off, spot⟩ := x
    have hspot : spot = none := by
      have := World.cell?_spot (hf 0 (by omega))
      simpa [Addr.add] using this
    subst hspot
    refine ⟨b, off, rfl, fun i hi => ?_⟩
    have q0 := hf i (by omega)
    simp only [add_plain] at q0
    rw [Nat.mul_one] at q0
    rw [q0]
    simp [icells, show i < len by omega]

set_option maxRecDepth 100000 in
theorem open_actsF {H : Type} {enc : TypeId × Value → H} {w : World} {base : Nat} {spare : Nat → Bool} {held : Bool} {a : Option Addr} {len cap fuel : Nat} {y : DataW H × List MemPlace}
    (hk : Try.prog.cellsOf 60 = 6) (ko : Try.prog.cellsOf 47 = 4) (k2 : Try.prog.cellsOf 2 = 1) (hf : DataW.trod enc Try.prog w base spare held fuel 23 (Value.slice a len cap).cells.toList = some y) : (∃ ts, AcAt w a len ts) ∧ len ≤ 9223372036854775807 := by
  rcases Deep.open_slice Try.underlying23 hf with ⟨hcs, _⟩ | ⟨x, l, c, m, n, D, Pl, hcs, hb, hl, hm, hmm, _, hx⟩
  · simp [Value.cells] at hcs
    obtain ⟨rfl, rfl, rfl⟩ := hcs
    exact ⟨⟨[], rfl, fun h => absurd h (by simp)⟩, by simp⟩
  · simp [Value.cells] at hcs
    obtain ⟨rfl, rfl, rfl⟩ := hcs
    have hlm : len ≤ m := by rw [hmm]; split <;> omega
    refine ⟨?_, by unfold maxLen at hm; omega⟩
    rw [hk] at hx
    obtain ⟨f, hf⟩ := @Deep.choose_lt Ch.Ac ⟨Ch.Ac.zero⟩ len (fun i t => w.cell? (x.add (i * 6)) = some (.int .i64 t.tx) ∧ w.cell? (x.add (i * 6 + 1)) = some (.int .i64 t.k) ∧ w.cell? (x.add (i * 6 + 2)) = some (.int .i64 t.a) ∧ w.cell? (x.add (i * 6 + 3)) = some (.int .i64 t.b) ∧ w.cell? (x.add (i * 6 + 4)) = some (.int .i64 t.v) ∧
        ∃ ai ni ci, w.cell? (x.add (i * 6 + 5)) = some (.slice ai ni ci) ∧ CellsAt w ai (ni * 1) (icells t.an) ∧ ni ≤ 9223372036854775807) (fun i hi => by
      obtain ⟨cs', h1, h2⟩ := hx i (by omega)
      obtain ⟨_, hlen, hcell⟩ := World.cells?_some h1
      obtain ⟨y0, y1, y2, n', _, _, g0, g1, g2⟩ := Deep.trod_struct3 Try.underlying60 h2
      match cs', hlen with
      | [c0, c1, c2, c3, c4, c5], _ =>
        simp only [k2, ko, Try.cellsInts, List.drop_zero, List.take_succ_cons, List.take_zero, List.drop_succ_cons] at g0 g1 g2
        obtain ⟨r0, e0, _, _⟩ := DataW.trod_int Try.underlying2 g0
        obtain ⟨xs, n2, _, _, hlen2, hl2, hg⟩ := DataW.trod_struct Try.underlying47 g1
        match xs, hl2 with
        | [z0, z1, z2, z3], _ =>
          have p0 : DataW.trod enc Try.prog w base spare held n2 2 [c1] = some z0 := by simpa [k2] using hg 0 _ rfl
          have p1 : DataW.trod enc Try.prog w base spare held n2 2 [c2] = some z1 := by simpa [k2] using hg 1 _ rfl
          have p2 : DataW.trod enc Try.prog w base spare held n2 2 [c3] = some z2 := by simpa [k2] using hg 2 _ rfl
          have p3 : DataW.trod enc Try.prog w base spare held n2 2 [c4] = some z3 := by simpa [k2] using hg 3 _ rfl
          obtain ⟨r1, e1, _, _⟩ := DataW.trod_int Try.underlying2 p0
          obtain ⟨r2, e2, _, _⟩ := DataW.trod_int Try.underlying2 p1
          obtain ⟨r3, e3, _, _⟩ := DataW.trod_int Try.underlying2 p2
          obtain ⟨r4, e4, _, _⟩ := DataW.trod_int Try.underlying2 p3
          obtain ⟨ai, ni, ci, e5⟩ := slice_form Try.underlying24 g2
          simp only [List.cons.injEq, and_true] at e0 e1 e2 e3 e4 e5
          subst e0 e1 e2 e3 e4 e5
          obtain ⟨⟨rs, hr⟩, hni⟩ := open_intsA k2 g2
          have q0 := hcell 0 (by omega)
          have q1 := hcell 1 (by omega)
          have q2 := hcell 2 (by omega)
          have q3 := hcell 3 (by omega)
          have q4 := hcell 4 (by omega)
          have q5 := hcell 5 (by omega)
          rw [Deep.add_add] at q0 q1 q2 q3 q4 q5
          exact ⟨⟨r0, r1, r2, r3, r4, rs⟩, q0, q1, q2, q3, q4, ai, ni, ci, q5, hr, hni⟩)
    refine ⟨(List.range len).map f, by simp, fun hpos => ?_⟩
    obtain ⟨b, off, spot⟩ := x
    have hspot : spot = none := by
      have := World.cell?_spot (hf 0 (by omega)).1
      simpa [Addr.add] using this
    subst hspot
    refine ⟨b, off, rfl, fun i hi => ?_⟩
    have e2 : Ch.acAt ((List.range len).map f) i = f i := by simp [Ch.acAt, List.getD, hi]
    obtain ⟨q0, q1, q2, q3, q4, ai, ni, ci, q5, hr, hni⟩ := hf i hi
    simp only [add_plain, ← Nat.add_assoc] at q0 q1 q2 q3 q4 q5
    exact ⟨ai, ni, ci, by rw [e2]; exact ⟨q0, q1, q2, q3, q4, q5, hr, hni⟩⟩

/-- A list of acts that came in, opened. -/
theorem open_acts {H : Type} {enc : TypeId × Value → H} {w : World} {base : Nat} {spare : Nat → Bool} {held : Bool} {a : Option Addr} {len cap : Nat} {d : DataW H} {p : List MemPlace}
    (h : DataW.Trod enc Try.prog w base spare held 23 (.slice a len cap) d p) : (∃ ts, AcAt w a len ts) ∧ len ≤ 9223372036854775807 := by
  obtain ⟨fuel, hf⟩ := h
  exact open_actsF (by kernel_rfl) (by kernel_rfl) (by kernel_rfl) hf
end Go.Proofs.Ytlpncikiaojmiaa
