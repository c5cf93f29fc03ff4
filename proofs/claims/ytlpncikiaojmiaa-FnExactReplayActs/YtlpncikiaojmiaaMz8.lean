/- Several texts in one: Open, OpenA, OpenRw. -/
import Derived.Test.YtlpncikiaojmiaaProg
import Derived.Test.YtlpncikiaojmiaaBase
import Derived.ProofKit
import Derived.OpenShut
import Derived.ChangeOld
import Derived.Lib.SmallJoins
import Derived.Deep.Fields
import Derived.Test.YtlpncikiaojmiaaMz4
import Derived.Deep.Slices


/- Arguments that came in, opened: a list of bytes, a struct of seven fields, a log of two lists of bytes. -/
namespace Go.Proofs.Ytlpncikiaojmiaa
open Go.ChangeShapes Go.WideShapes Go.ChangeAt Go.RowKit Go.Joins Go.Deep

theorem Try.own : ownKnob Try.prog.godebug = none := by kernel_rfl
theorem Try.laidOut : laidOutB Try.prog = true := by kernel_rfl

theorem array7 {α : Type} {cs : Array α} (h : cs.size = 7) : ∃ c0 c1 c2 c3 c4 c5 c6, cs = #[c0, c1, c2, c3, c4, c5, c6] := by
  obtain ⟨l⟩ := cs
  match l, h with
  | [c0, c1, c2, c3, c4, c5, c6], _ => exact ⟨c0, c1, c2, c3, c4, c5, c6, rfl⟩

section
variable {H : Type} {enc : TypeId × Value → H} {P : Program} {w : World} {base : Nat} {spare : Nat → Bool} {held : Bool}

theorem open_agg7 {r : Reach} {b0 : Nat} {t : TypeId} {f0 f1 f2 f3 f4 f5 f6 : Field} {v : Value} {d : DataW H} {p : List MemPlace} (hs : P.underlying t = some (.struct #[f0, f1, f2, f3, f4, f5, f6])) (hone : oneCellFields P #[f0, f1, f2, f3, f4, f5, f6] = true) (hC : P.cellsOf t = 7)
    (hv : Value.okWide P w r b0 t v) (h : DataW.Trod enc P w base spare held t v d p) :
    ∃ (v0 v1 v2 v3 v4 v5 v6 : Value) (y0 y1 y2 y3 y4 y5 y6 : DataW H × List MemPlace) (n : Nat), v = .agg #[v0, v1, v2, v3, v4, v5, v6] ∧
      DataW.trod enc P w base spare held n f0.type [v0] = some y0 ∧ DataW.trod enc P w base spare held n f1.type [v1] = some y1 ∧ DataW.trod enc P w base spare held n f2.type [v2] = some y2 ∧ DataW.trod enc P w base spare held n f3.type [v3] = some y3 ∧
      DataW.trod enc P w base spare held n f4.type [v4] = some y4 ∧ DataW.trod enc P w base spare held n f5.type [v5] = some y5 ∧ DataW.trod enc P w base spare held n f6.type [v6] = some y6 := by
  obtain ⟨cs, rfl, hsz⟩ := okWide_struct hs hv
  obtain ⟨c0, c1, c2, c3, c4, c5, c6, rfl⟩ := array7 (hsz.trans hC)
  obtain ⟨fuel, hf⟩ := h
  obtain ⟨xs, n, _, _, hl, hlen, hf⟩ := DataW.trod_struct hs hf
  obtain ⟨o0, k0⟩ := hone_of hone 0 f0 rfl
  obtain ⟨o1, k1⟩ := hone_of hone 1 f1 rfl
  obtain ⟨o2, k2⟩ := hone_of hone 2 f2 rfl
  obtain ⟨o3, k3⟩ := hone_of hone 3 f3 rfl
  obtain ⟨o4, k4⟩ := hone_of hone 4 f4 rfl
  obtain ⟨o5, k5⟩ := hone_of hone 5 f5 rfl
  obtain ⟨o6, k6⟩ := hone_of hone 6 f6 rfl
  match xs, hlen with
  | [y0, y1, y2, y3, y4, y5, y6], _ =>
    exact ⟨c0, c1, c2, c3, c4, c5, c6, y0, y1, y2, y3, y4, y5, y6, n, rfl,
      by simpa [Value.cells, o0, k0] using hf 0 f0 rfl, by simpa [Value.cells, o1, k1] using hf 1 f1 rfl, by simpa [Value.cells, o2, k2] using hf 2 f2 rfl, by simpa [Value.cells, o3, k3] using hf 3 f3 rfl,
      by simpa [Value.cells, o4, k4] using hf 4 f4 rfl, by simpa [Value.cells, o5, k5] using hf 5 f5 rfl, by simpa [Value.cells, o6, k6] using hf 6 f6 rfl⟩
end

end Go.Proofs.Ytlpncikiaojmiaa

/- Lists of acts that came in, opened. -/
namespace Go.Proofs.Ytlpncikiaojmiaa
open Go.ChangeShapes Go.WideShapes Go.ChangeAt Go.RowKit Go.Joins Go.Deep

theorem Try.cellsInts : Try.prog.cellsOf 24 = 1 := by kernel_rfl

set_option maxRecDepth 100000 in
theorem open_intsA {H : Type} {enc : TypeId × Value → H} {w : World} {base : Nat} {spare : Nat → Bool} {held : Bool} {a : Option Addr} {len cap fuel : Nat} {y : DataW H × List MemPlace}
    (k2 : Try.prog.cellsOf 2 = 1) (hf : DataW.trod enc Try.prog w base spare held fuel 24 [.slice a len cap] = some y) : (∃ zs, CellsAt w a (len * 1) (icells zs)) ∧ len ≤ 9223372036854775807 := by
  rcases Deep.open_slice Try.underlying24 hf with ⟨hcs, _⟩ | ⟨x, l, c, m, n, D, Pl, hcs, hb, hl, hm, hmm, _, hx⟩
  · simp at hcs
    obtain ⟨rfl, rfl, rfl⟩ := hcs
    exact ⟨⟨[], ⟨rfl, fun h => absurd h (by simp)⟩⟩, by simp⟩
  · simp at hcs
    obtain ⟨rfl, rfl, rfl⟩ := hcs
    have hlm : len ≤ m := by rw [hmm]; split <;> omega
    refine ⟨?_, by unfold maxLen at hm; omega⟩
    rw [k2] at hx
    obtain ⟨f, hf⟩ := @Deep.choose_lt Int ⟨0⟩ len (fun i r => w.cell? (x.add (i * 1)) = some (.int .i64 r)) (fun i hi => by
      obtain ⟨cs', h1, h2⟩ := hx i (by omega)
      obtain ⟨_, hlen, hcell⟩ := World.cells?_some h1
      match cs', hlen with
      | [c0], _ =>
        obtain ⟨rk, e0, _, hw⟩ := DataW.trod_int Try.underlying2 h2
        simp only [List.cons.injEq, and_true] at e0
        subst e0
        have q0 := hcell 0 (by omega)
        rw [Deep.add_add] at q0
        exact ⟨rk, q0⟩)
    refine ⟨(List.range len).map f, ⟨by simp [icells_len], fun hpos => ?_⟩⟩
    obtain ⟨b, off, spot⟩ := x
    have hspot : spot = none := by
      have := World.cell?_spot (hf 0 (by omega))
      simpa [Addr.add] using this
    subst hspot
    refine ⟨b, off, rfl, fun i hi => ?_⟩
    have q0 := hf i (by omega)
    simp only [add_plain] at q0
    rw [Nat.mul_one] at q0
    rw [q0]
    simp [icells, show i < len by omega]

set_option maxRecDepth 100000 in
theorem open_actsF {H : Type} {enc : TypeId × Value → H} {w : World} {base : Nat} {spare : Nat → Bool} {held : Bool} {a : Option Addr} {len cap fuel : Nat} {y : DataW H × List MemPlace}
    (hk : Try.prog.cellsOf 60 = 6) (ko : Try.prog.cellsOf 47 = 4) (k2 : Try.prog.cellsOf 2 = 1) (hf : DataW.trod enc Try.prog w base spare held fuel 23 (Value.slice a len cap).cells.toList = some y) : (∃ ts, AcAt w a len ts) ∧ len ≤ 9223372036854775807 := by
  rcases Deep.open_slice Try.underlying23 hf with ⟨hcs, _⟩ | ⟨x, l, c, m, n, D, Pl, hcs, hb, hl, hm, hmm, _, hx⟩
  · simp [Value.cells] at hcs
    obtain ⟨rfl, rfl, rfl⟩ := hcs
    exact ⟨⟨[], rfl, fun h => absurd h (by simp)⟩, by simp⟩
  · simp [Value.cells] at hcs
    obtain ⟨rfl, rfl, rfl⟩ := hcs
    have hlm : len ≤ m := by rw [hmm]; split <;> omega
    refine ⟨?_, by unfold maxLen at hm; omega⟩
    rw [hk] at hx
    obtain ⟨f, hf⟩ := @Deep.choose_lt Ch.Ac ⟨Ch.Ac.zero⟩ len (fun i t => w.cell? (x.add (i * 6)) = some (.int .i64 t.tx) ∧ w.cell? (x.add (i * 6 + 1)) = some (.int .i64 t.k) ∧ w.cell? (x.add (i * 6 + 2)) = some (.int .i64 t.a) ∧ w.cell? (x.add (i * 6 + 3)) = some (.int .i64 t.b) ∧ w.cell? (x.add (i * 6 + 4)) = some (.int .i64 t.v) ∧
        ∃ ai ni ci, w.cell? (x.add (i * 6 + 5)) = some (.slice ai ni ci) ∧ CellsAt w ai (ni * 1) (icells t.an) ∧ ni ≤ 9223372036854775807) (fun i hi => by
      obtain ⟨cs', h1, h2⟩ := hx i (by omega)
      obtain ⟨_, hlen, hcell⟩ := World.cells?_some h1
      obtain ⟨y0, y1, y2, n', _, _, g0, g1, g2⟩ := Deep.trod_struct3 Try.underlying60 h2
      match cs', hlen with
      | [c0, c1, c2, c3, c4, c5], _ =>
        simp only [k2, ko, Try.cellsInts, List.drop_zero, List.take_succ_cons, List.take_zero, List.drop_succ_cons] at g0 g1 g2
        obtain ⟨r0, e0, _, _⟩ := DataW.trod_int Try.underlying2 g0
        obtain ⟨xs, n2, _, _, hlen2, hl2, hg⟩ := DataW.trod_struct Try.underlying47 g1
        match xs, hl2 with
        | [z0, z1, z2, z3], _ =>
          have p0 : DataW.trod enc Try.prog w base spare held n2 2 [c1] = some z0 := by simpa [k2] using hg 0 _ rfl
          have p1 : DataW.trod enc Try.prog w base spare held n2 2 [c2] = some z1 := by simpa [k2] using hg 1 _ rfl
          have p2 : DataW.trod enc Try.prog w base spare held n2 2 [c3] = some z2 := by simpa [k2] using hg 2 _ rfl
          have p3 : DataW.trod enc Try.prog w base spare held n2 2 [c4] = some z3 := by simpa [k2] using hg 3 _ rfl
          obtain ⟨r1, e1, _, _⟩ := DataW.trod_int Try.underlying2 p0
          obtain ⟨r2, e2, _, _⟩ := DataW.trod_int Try.underlying2 p1
          obtain ⟨r3, e3, _, _⟩ := DataW.trod_int Try.underlying2 p2
          obtain ⟨r4, e4, _, _⟩ := DataW.trod_int Try.underlying2 p3
          obtain ⟨ai, ni, ci, e5⟩ := slice_form Try.underlying24 g2
          simp only [List.cons.injEq, and_true] at e0 e1 e2 e3 e4 e5
          subst e0 e1 e2 e3 e4 e5
          obtain ⟨⟨rs, hr⟩, hni⟩ := open_intsA k2 g2
          have q0 := hcell 0 (by omega)
          have q1 := hcell 1 (by omega)
          have q2 := hcell 2 (by omega)
          have q3 := hcell 3 (by omega)
          have q4 := hcell 4 (by omega)
          have q5 := hcell 5 (by omega)
          rw [Deep.add_add] at q0 q1 q2 q3 q4 q5
          exact ⟨⟨r0, r1, r2, r3, r4, rs⟩, q0, q1, q2, q3, q4, ai, ni, ci, q5, hr, hni⟩)
    refine ⟨(List.range len).map f, by simp, fun hpos => ?_⟩
    obtain ⟨b, off, spot⟩ := x
    have hspot : spot = none := by
      have := World.cell?_spot (hf 0 (by omega)).1
      simpa [Addr.add] using this
    subst hspot
    refine ⟨b, off, rfl, fun i hi => ?_⟩
    have e2 : Ch.acAt ((List.range len).map f) i = f i := by simp [Ch.acAt, List.getD, hi]
    obtain ⟨q0, q1, q2, q3, q4, ai, ni, ci, q5, hr, hni⟩ := hf i hi
    simp only [add_plain, ← Nat.add_assoc] at q0 q1 q2 q3 q4 q5
    exact ⟨ai, ni, ci, by rw [e2]; exact ⟨q0, q1, q2, q3, q4, q5, hr, hni⟩⟩

/-- A list of acts that came in, opened. -/
theorem open_acts {H : Type} {enc : TypeId × Value → H} {w : World} {base : Nat} {spare : Nat → Bool} {held : Bool} {a : Option Addr} {len cap : Nat} {d : DataW H} {p : List MemPlace}
    (h : DataW.Trod enc Try.prog w base spare held 23 (.slice a len cap) d p) : (∃ ts, AcAt w a len ts) ∧ len ≤ 9223372036854775807 := by
  obtain ⟨fuel, hf⟩ := h
  exact open_actsF (by kernel_rfl) (by kernel_rfl) (by kernel_rfl) hf
end Go.Proofs.Ytlpncikiaojmiaa

/- Lists of rows that came in, opened (beside Open). -/
namespace Go.Proofs.Ytlpncikiaojmiaa
open Go.ChangeShapes Go.WideShapes Go.ChangeAt Go.RowKit Go.Joins Go.Deep

theorem rcells_map (f : Nat → Ch.Row) (n i : Nat) (hi : i < n * 3) : (rcells ((List.range n).map f))[i]? = if i % 3 = 0 then some (.int .i64 (f (i / 3)).k) else if i % 3 = 1 then some (.int .i64 (f (i / 3)).v) else some (.bool (f (i / 3)).g) := by
  have hq : i / 3 < n := by omega
  obtain ⟨h0, h1, h2⟩ := rcells_at ((List.range n).map f) (i / 3) (by simpa using hq)
  have e : ((List.range n).map f).getD (i / 3) Ch.Row.zero = f (i / 3) := by simp [List.getD, hq]
  rw [e] at h0 h1 h2
  have hm : i % 3 = 0 ∨ i % 3 = 1 ∨ i % 3 = 2 := by omega
  rcases hm with hm | hm | hm
  · rw [if_pos hm, ← h0]; congr 1; omega
  · rw [if_neg (by omega), if_pos hm, ← h1]; congr 1; omega
  · rw [if_neg (by omega), if_neg (by omega), ← h2]; congr 1; omega

set_option maxRecDepth 100000 in
theorem open_rowsF {H : Type} {enc : TypeId × Value → H} {w : World} {base : Nat} {spare : Nat → Bool} {held : Bool} {a : Option Addr} {len cap fuel : Nat} {y : DataW H × List MemPlace}
    (hk : Try.prog.cellsOf 66 = 3) (k2 : Try.prog.cellsOf 2 = 1) (k4 : Try.prog.cellsOf 4 = 1) (hf : DataW.trod enc Try.prog w base spare held fuel 22 [.slice a len cap] = some y) : (∃ rs, CellsAt w a (len * 3) (rcells rs)) ∧ len ≤ maxLen := by
  rcases Deep.open_slice Try.underlying22 hf with ⟨hcs, _⟩ | ⟨x, l, c, m, n, D, Pl, hcs, hb, hl, hm, hmm, _, hx⟩
  · simp at hcs
    obtain ⟨rfl, rfl, rfl⟩ := hcs
    exact ⟨⟨[], rfl, fun h => absurd h (by simp)⟩, by simp⟩
  · simp at hcs
    obtain ⟨rfl, rfl, rfl⟩ := hcs
    refine ⟨?_, by omega⟩
    have hlm : len ≤ m := by rw [hmm]; split <;> omega
    rw [hk] at hx
    obtain ⟨f, hf⟩ := @Deep.choose_lt Ch.Row ⟨Ch.Row.zero⟩ len (fun i r => w.cell? (x.add (i * 3)) = some (.int .i64 r.k) ∧ w.cell? (x.add (i * 3 + 1)) = some (.int .i64 r.v) ∧ w.cell? (x.add (i * 3 + 2)) = some (.bool r.g)) (fun i hi => by
      obtain ⟨cs', h1, h2⟩ := hx i (by omega)
      obtain ⟨_, hlen, hcell⟩ := World.cells?_some h1
      obtain ⟨y0, y1, y2, n', _, _, g0, g1, g2⟩ := Deep.trod_struct3 Try.underlying66 h2
      match cs', hlen with
      | [c0, c1, c2], _ =>
        simp only [k2, k4, List.drop_zero, List.take_succ_cons, List.take_zero, List.drop_succ_cons] at g0 g1 g2
        obtain ⟨rk, e0, _, _⟩ := DataW.trod_int Try.underlying2 g0
        obtain ⟨rv, e1, _, _⟩ := DataW.trod_int Try.underlying2 g1
        obtain ⟨rg, e2, _⟩ := DataW.trod_bool Try.underlying4 g2
        simp only [List.cons.injEq, and_true] at e0 e1 e2
        subst e0 e1 e2
        have q0 := hcell 0 (by omega)
        have q1 := hcell 1 (by omega)
        have q2 := hcell 2 (by omega)
        rw [Deep.add_add] at q0 q1 q2
        exact ⟨⟨rk, rv, rg⟩, q0, q1, q2⟩)
    refine ⟨(List.range len).map f, by rw [rcells_len]; simp, fun hpos => ?_⟩
    obtain ⟨b, off, spot⟩ := x
    have hspot : spot = none := by
      have := World.cell?_spot (hf 0 (by omega)).1
      simpa [Addr.add] using this
    subst hspot
    refine ⟨b, off, rfl, fun i hi => ?_⟩
    rw [rcells_map f len i hi]
    obtain ⟨q0, q1, q2⟩ := hf (i / 3) (by omega)
    simp only [add_plain] at q0 q1 q2
    have hm3 : i % 3 = 0 ∨ i % 3 = 1 ∨ i % 3 = 2 := by omega
    rcases hm3 with h3 | h3 | h3
    · rw [if_pos h3, ← q0]; congr 2; omega
    · rw [if_neg (by omega), if_pos h3, ← q1]; congr 2; omega
    · rw [if_neg (by omega), if_neg (by omega), ← q2]; congr 2; omega

end Go.Proofs.Ytlpncikiaojmiaa

