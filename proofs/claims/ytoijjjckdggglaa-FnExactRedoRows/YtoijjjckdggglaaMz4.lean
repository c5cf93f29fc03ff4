/- Several texts in one: OpenL, OpenR. -/
import Derived.Test.YtoijjjckdggglaaLvB
import Derived.ProofKit
import Derived.OpenShut
import Derived.ChangeOld
import Derived.Lib.SmallJoins
import Derived.Deep.Fields
import Derived.Deep.Slices
import Derived.Deep.Strs
import Derived.Test.YtoijjjckdggglaaRcA


/- Lists of rows and of leaves that came in, opened. -/
namespace Go.Proofs.Ytoijjjckdggglaa
open Go.ChangeShapes Go.WideShapes Go.ChangeAt Go.RowKit Go.Joins Go.Deep

theorem Try.own : ownKnob Try.prog.godebug = none := by kernel_rfl
theorem Try.laidOut : laidOutB Try.prog = true := by kernel_rfl
theorem Try.cellsRows : Try.prog.cellsOf 22 = 1 := by kernel_rfl

theorem rcells_map (f : Nat → Ch.Row) (n i : Nat) (hi : i < n * 3) : (rcells ((List.range n).map f))[i]? = if i % 3 = 0 then some (.int .i64 (f (i / 3)).k) else if i % 3 = 1 then some (.int .i64 (f (i / 3)).v) else some (.bool (f (i / 3)).g) := by
  have hq : i / 3 < n := by omega
  obtain ⟨h0, h1, h2⟩ := rcells_at ((List.range n).map f) (i / 3) (by simpa using hq)
  have e : ((List.range n).map f).getD (i / 3) Ch.Row.zero = f (i / 3) := by simp [List.getD, hq]
  rw [e] at h0 h1 h2
  have hm : i % 3 = 0 ∨ i % 3 = 1 ∨ i % 3 = 2 := by omega
  rcases hm with hm | hm | hm
  · rw [if_pos hm, ← h0]; congr 1; omega
  · rw [if_neg (by omega), if_pos hm, ← h1]; congr 1; omega
  · rw [if_neg (by omega), if_neg (by omega), ← h2]; congr 1; omega

set_option maxRecDepth 100000 in
theorem open_rowsF {H : Type} {enc : TypeId × Value → H} {w : World} {base : Nat} {spare : Nat → Bool} {held : Bool} {a : Option Addr} {len cap fuel : Nat} {y : DataW H × List MemPlace}
    (hk : Try.prog.cellsOf 52 = 3) (k2 : Try.prog.cellsOf 2 = 1) (k4 : Try.prog.cellsOf 4 = 1) (hf : DataW.trod enc Try.prog w base spare held fuel 22 [.slice a len cap] = some y) : (∃ rs, CellsAt w a (len * 3) (rcells rs)) ∧ len ≤ maxLen := by
  rcases Deep.open_slice Try.underlying22 hf with ⟨hcs, _⟩ | ⟨x, l, c, m, n, D, Pl, hcs, hb, hl, hm, hmm, _, hx⟩
  · simp at hcs
    obtain ⟨rfl, rfl, rfl⟩ := hcs
    exact ⟨⟨[], rfl, fun h => absurd h (by simp)⟩, by simp⟩
  · simp at hcs
    obtain ⟨rfl, rfl, rfl⟩ := hcs
    refine ⟨?_, by omega⟩
    have hlm : len ≤ m := by rw [hmm]; split <;> omega
    rw [hk] at hx
    obtain ⟨f, hf⟩ := @Deep.choose_lt Ch.Row ⟨Ch.Row.zero⟩ len (fun i r => w.cell? (x.add (i * 3)) = some (.int .i64 r.k) ∧ w.cell? (x.add (i * 3 + 1)) = some (.int .i64 r.v) ∧ w.cell? (x.add (i * 3 + 2)) = some (.bool r.g)) (fun i hi => by
      obtain ⟨cs', h1, h2⟩ := hx i (by omega)
      obtain ⟨_, hlen, hcell⟩ := World.cells?_some h1
      obtain ⟨y0, y1, y2, n', _, _, g0, g1, g2⟩ := Deep.trod_struct3 Try.underlying52 h2
      match cs', hlen with
      | [c0, c1, c2], _ =>
        simp only [k2, k4, List.drop_zero, List.take_succ_cons, List.take_zero, List.drop_succ_cons] at g0 g1 g2
        obtain ⟨rk, e0, _, _⟩ := DataW.trod_int Try.underlying2 g0
        obtain ⟨rv, e1, _, _⟩ := DataW.trod_int Try.underlying2 g1
        obtain ⟨rg, e2, _⟩ := DataW.trod_bool Try.underlying4 g2
        simp only [List.cons.injEq, and_true] at e0 e1 e2
        subst e0 e1 e2
        have q0 := hcell 0 (by omega)
        have q1 := hcell 1 (by omega)
        have q2 := hcell 2 (by omega)
        rw [Deep.add_add] at q0 q1 q2
        exact ⟨⟨rk, rv, rg⟩, q0, q1, q2⟩)
    refine ⟨(List.range len).map f, by rw [rcells_len]; simp, fun hpos => ?_⟩
    obtain ⟨b, off, spot⟩ := x
    have hspot : spot = none := by
      have := World.cell?_spot (hf 0 (by omega)).1
      simpa [Addr.add] using this
    subst hspot
    refine ⟨b, off, rfl, fun i hi => ?_⟩
    rw [rcells_map f len i hi]
    obtain ⟨q0, q1, q2⟩ := hf (i / 3) (by omega)
    simp only [add_plain] at q0 q1 q2
    have hm3 : i % 3 = 0 ∨ i % 3 = 1 ∨ i % 3 = 2 := by omega
    rcases hm3 with h3 | h3 | h3
    · rw [if_pos h3, ← q0]; congr 2; omega
    · rw [if_neg (by omega), if_pos h3, ← q1]; congr 2; omega
    · rw [if_neg (by omega), if_neg (by omega), ← q2]; congr 2; omega

end Go.Proofs.Ytoijjjckdggglaa


/- Lists of records that came in, opened. -/
namespace Go.Proofs.Ytoijjjckdggglaa
open Go.ChangeShapes Go.WideShapes Go.ChangeAt Go.RowKit Go.Joins Go.Deep

set_option maxRecDepth 100000 in
theorem open_recsF {H : Type} {enc : TypeId × Value → H} {w : World} {base : Nat} {spare : Nat → Bool} {held : Bool} {a : Option Addr} {len cap fuel : Nat} {y : DataW H × List MemPlace}
    (hk : Try.prog.cellsOf 56 = 7) (k2 : Try.prog.cellsOf 2 = 1) (k4 : Try.prog.cellsOf 4 = 1) (hf : DataW.trod enc Try.prog w base spare held fuel 23 (Value.slice a len cap).cells.toList = some y) : (∃ rs, CellsAt w a (len * 7) (rc7 rs)) ∧ len ≤ 9223372036854775807 := by
  rcases Deep.open_slice Try.underlying23 hf with ⟨hcs, _⟩ | ⟨x, l, c, m, n, D, Pl, hcs, hb, hl, hm, hmm, _, hx⟩
  · simp [Value.cells] at hcs
    obtain ⟨rfl, rfl, rfl⟩ := hcs
    exact ⟨⟨[], rfl, fun h => absurd h (by simp)⟩, by simp⟩
  · simp [Value.cells] at hcs
    obtain ⟨rfl, rfl, rfl⟩ := hcs
    have hlm : len ≤ m := by rw [hmm]; split <;> omega
    refine ⟨?_, by unfold maxLen at hm; omega⟩
    rw [hk] at hx
    obtain ⟨f, hf⟩ := @Deep.choose_lt Ch.Rec ⟨Ch.Rec.zero⟩ len (fun i r => w.cell? (x.add (i * 7)) = some (.int .i64 r.kd) ∧ w.cell? (x.add (i * 7 + 1)) = some (.int .i64 r.tx) ∧ w.cell? (x.add (i * 7 + 2)) = some (.int .i64 r.ky) ∧ w.cell? (x.add (i * 7 + 3)) = some (.bool r.hd) ∧ w.cell? (x.add (i * 7 + 4)) = some (.int .i64 r.ol) ∧ w.cell? (x.add (i * 7 + 5)) = some (.bool r.hs) ∧ w.cell? (x.add (i * 7 + 6)) = some (.int .i64 r.nw)) (fun i hi => by
      obtain ⟨cs', h1, h2⟩ := hx i (by omega)
      obtain ⟨_, hlen, hcell⟩ := World.cells?_some h1
      obtain ⟨xs, n', _, _, hlen2, hl1, hg⟩ := DataW.trod_struct Try.underlying56 h2
      match cs', hlen, xs, hl1 with
      | [c0, c1, c2, c3, c4, c5, c6], _, [y0, y1, y2, y3, y4, y5, y6], _ =>
        have g0 : DataW.trod enc Try.prog w base spare held n' 2 [c0] = some y0 := by simpa [k2, k4] using hg 0 _ rfl
        have g1 : DataW.trod enc Try.prog w base spare held n' 2 [c1] = some y1 := by simpa [k2, k4] using hg 1 _ rfl
        have g2 : DataW.trod enc Try.prog w base spare held n' 2 [c2] = some y2 := by simpa [k2, k4] using hg 2 _ rfl
        have g3 : DataW.trod enc Try.prog w base spare held n' 4 [c3] = some y3 := by simpa [k2, k4] using hg 3 _ rfl
        have g4 : DataW.trod enc Try.prog w base spare held n' 2 [c4] = some y4 := by simpa [k2, k4] using hg 4 _ rfl
        have g5 : DataW.trod enc Try.prog w base spare held n' 4 [c5] = some y5 := by simpa [k2, k4] using hg 5 _ rfl
        have g6 : DataW.trod enc Try.prog w base spare held n' 2 [c6] = some y6 := by simpa [k2, k4] using hg 6 _ rfl
        obtain ⟨r0, e0, _, _⟩ := DataW.trod_int Try.underlying2 g0
        obtain ⟨r1, e1, _, _⟩ := DataW.trod_int Try.underlying2 g1
        obtain ⟨r2, e2, _, _⟩ := DataW.trod_int Try.underlying2 g2
        obtain ⟨r3, e3, _⟩ := DataW.trod_bool Try.underlying4 g3
        obtain ⟨r4, e4, _, _⟩ := DataW.trod_int Try.underlying2 g4
        obtain ⟨r5, e5, _⟩ := DataW.trod_bool Try.underlying4 g5
        obtain ⟨r6, e6, _, _⟩ := DataW.trod_int Try.underlying2 g6
        simp only [List.cons.injEq, and_true] at e0 e1 e2 e3 e4 e5 e6
        subst e0 e1 e2 e3 e4 e5 e6
        have q0 := hcell 0 (by omega)
        have q1 := hcell 1 (by omega)
        have q2 := hcell 2 (by omega)
        have q3 := hcell 3 (by omega)
        have q4 := hcell 4 (by omega)
        have q5 := hcell 5 (by omega)
        have q6 := hcell 6 (by omega)
        rw [Deep.add_add] at q0 q1 q2 q3 q4 q5 q6
        exact ⟨⟨r0, r1, r2, r3, r4, r5, r6⟩, q0, q1, q2, q3, q4, q5, q6⟩)
    refine ⟨(List.range len).map f, by rw [rc7_len]; simp, fun hpos => ?_⟩
    obtain ⟨b, off, spot⟩ := x
    have hspot : spot = none := by
      have := World.cell?_spot (hf 0 (by omega)).1
      simpa [Addr.add] using this
    subst hspot
    refine ⟨b, off, rfl, fun i hi => ?_⟩
    have hq : i / 7 < len := by omega
    have hm7 : i % 7 < 7 := Nat.mod_lt _ (by decide)
    have he : i = i / 7 * 7 + i % 7 := by omega
    have h0 := rc7_at ((List.range len).map f) (i / 7) (i % 7) (by simpa using hq) hm7
    rw [show ((List.range len).map f).getD (i / 7) Ch.Rec.zero = f (i / 7) by simp [List.getD, hq], ← he] at h0
    rw [h0]
    obtain ⟨q0, q1, q2, q3, q4, q5, q6⟩ := hf (i / 7) hq
    simp only [add_plain] at q0 q1 q2 q3 q4 q5 q6
    generalize i % 7 = j at *
    generalize i / 7 = q at *
    subst he
    match j, hm7 with
    | 0, _ => exact q0
    | 1, _ => exact q1
    | 2, _ => exact q2
    | 3, _ => exact q3
    | 4, _ => exact q4
    | 5, _ => exact q5
    | 6, _ => exact q6
theorem open_recs {H : Type} {enc : TypeId × Value → H} {w : World} {base : Nat} {spare : Nat → Bool} {held : Bool} {a : Option Addr} {len cap : Nat} {d : DataW H} {p : List MemPlace}
    (h : DataW.Trod enc Try.prog w base spare held 23 (.slice a len cap) d p) : (∃ rs, CellsAt w a (len * 7) (rc7 rs)) ∧ len ≤ 9223372036854775807 := by
  obtain ⟨fuel, hf⟩ := h
  exact open_recsF (by kernel_rfl) (by kernel_rfl) (by kernel_rfl) hf
end Go.Proofs.Ytoijjjckdggglaa

