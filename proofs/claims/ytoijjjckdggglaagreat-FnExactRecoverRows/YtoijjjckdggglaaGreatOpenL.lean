
/- Lists of rows and of leaves that came in, opened. -/
import Derived.Test.YtoijjjckdggglaaGreatLvB
import Derived.ProofKit
import Derived.OpenShut
import Derived.ChangeOld
import Derived.Lib.SmallJoins
import Derived.Deep.Fields
import Derived.Deep.Slices
import Derived.Deep.Strs
namespace Go.Proofs.YtoijjjckdggglaaGreat
open Go.ChangeShapes Go.WideShapes Go.ChangeAt Go.RowKit Go.Joins Go.Deep

theorem Tryz.own : ownKnob Tryz.prog.godebug = none := by kernel_rfl
theorem Tryz.laidOut : laidOutB Tryz.prog = true := by kernel_rfl
theorem Tryz.cellsRows : Tryz.prog.cellsOf 22 = 1 := by kernel_rfl

theorem rcells_map (f : Nat → Ch.Row) (n i : Nat) (hi : i < n * 3) : (rcells ((List.range n).map f))[i]? = if i % 3 = 0 then some (.int .i64 (f (i / 3)).k) else if i % 3 = 1 then some (.int .i64 (f (i / 3)).v) else some (.bool (f (i / 3)).g) := by
  have hq : i / 3 < n := by omega
  obtain ⟨h0, h1, h2⟩ := rcells_at ((List.range n).map f) (i / 3) (by simpa using hq)
  have e : ((List.range n).map f).getD (i / 3) Ch.Row.zero = f (i / 3) := by simp [List.getD, hq]
  rw [e] at h0 h1 h2
  have hm : i % 3 = 0 ∨ i % 3 = 1 ∨ i % 3 = 2 := by omega
  rcases hm with hm | hm | hm
  · rw [if_pos hm, ← h0]; congr 1; omega
  · rw [if_neg (by omega), if_pos hm, ← h1]; congr 1; omega
  · rw [if_neg (by omega), if_neg (by omega), ← h2]; congr 1; omega

set_option maxRecDepth 100000 in
theorem open_rowsF {H : Type} {enc : TypeId × Value → H} {w : World} {base : Nat} {spare : Nat → Bool} {held : Bool} {a : Option Addr} {len cap fuel : Nat} {y : DataW H × List MemPlace}
    (hk : Tryz.prog.cellsOf 46 = 3) (k2 : Tryz.prog.cellsOf 2 = 1) (k4 : Tryz.prog.cellsOf 4 = 1) (hf : DataW.trod enc Tryz.prog w base spare held fuel 22 [.slice a len cap] = some y) : (∃ rs, CellsAt w a (len * 3) (rcells rs)) ∧ len ≤ maxLen := by
  rcases Deep.open_slice Tryz.underlying22 hf with ⟨hcs, _⟩ | ⟨x, l, c, m, n, D, Pl, hcs, hb, hl, hm, hmm, _, hx⟩
  · simp at hcs
    obtain ⟨rfl, rfl, rfl⟩ := hcs
    exact ⟨⟨[], rfl, fun h => absurd h (by simp)⟩, by simp⟩
  · simp at hcs
    obtain ⟨rfl, rfl, rfl⟩ := hcs
    refine ⟨?_, by omega⟩
    have hlm : len ≤ m := by rw [hmm]; split <;> omega
    rw [hk] at hx
    obtain ⟨f, hf⟩ := @Deep.choose_lt Ch.Row ⟨Ch.Row.zero⟩ len (fun i r => w.cell? (x.add (i * 3)) = some (.int .i64 r.k) ∧ w.cell? (x.add (i * 3 + 1)) = some (.int .i64 r.v) ∧ w.cell? (x.add (i * 3 + 2)) = some (.bool r.g)) (fun i hi => by
      obtain ⟨cs', h1, h2⟩ := hx i (by omega)
      obtain ⟨_, hlen, hcell⟩ := World.cells?_some h1
      obtain ⟨y0, y1, y2, n', _, _, g0, g1, g2⟩ := Deep.trod_struct3 Tryz.underlying46 h2
      match cs', hlen with
      | [c0, c1, c2], _ =>
        simp only [k2, k4, List.drop_zero, List.take_succ_cons, List.take_zero, List.drop_succ_cons] at g0 g1 g2
        obtain ⟨rk, e0, _, _⟩ := DataW.trod_int Tryz.underlying2 g0
        obtain ⟨rv, e1, _, _⟩ := DataW.trod_int Tryz.underlying2 g1
        obtain ⟨rg, e2, _⟩ := DataW.trod_bool Tryz.underlying4 g2
        simp only [List.cons.injEq, and_true] at e0 e1 e2
        subst e0 e1 e2
        have q0 := hcell 0 (by omega)
        have q1 := hcell 1 (by omega)
        have q2 := hcell 2 (by omega)
        rw [Deep.add_add] at q0 q1 q2
        exact ⟨⟨rk, rv, rg⟩, q0, q1, q2⟩)
    refine ⟨(List.range len).map f, by rw [rcells_len]; simp, fun hpos => ?_⟩
    obtain ⟨b, off, spot⟩ := x
    have hspot : spot = none := by
      have := World.cell?_spot (hf 0 (by omega)).1
      simpa [Addr.add] using this
    subst hspot
    refine ⟨b, off, rfl, fun i hi => ?_⟩
    rw [rcells_map f len i hi]
    obtain ⟨q0, q1, q2⟩ := hf (i / 3) (by omega)
    simp only [add_plain] at q0 q1 q2
    have hm3 : i % 3 = 0 ∨ i % 3 = 1 ∨ i % 3 = 2 := by omega
    rcases hm3 with h3 | h3 | h3
    · rw [if_pos h3, ← q0]; congr 2; omega
    · rw [if_neg (by omega), if_pos h3, ← q1]; congr 2; omega
    · rw [if_neg (by omega), if_neg (by omega), ← q2]; congr 2; omega

end Go.Proofs.YtoijjjckdggglaaGreat
