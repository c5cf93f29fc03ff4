/- Lists of holds and of locks that came in, opened. -/
import Derived.Test.YtbeolkklnlljcaaLkB
import Derived.ProofKit
import Derived.OpenShut
import Derived.ChangeOld
import Derived.Lib.SmallJoins
import Derived.Deep.Fields
import Derived.Deep.Slices
import Derived.Deep.Strs
namespace Go.Proofs.Ytbeolkklnlljcaa
open Go.ChangeShapes Go.WideShapes Go.ChangeAt Go.RowKit Go.Joins Go.Deep

theorem Try.own : ownKnob Try.prog.godebug = none := by kernel_rfl
theorem Try.laidOut : laidOutB Try.prog = true := by kernel_rfl

theorem hcells_map (f : Nat → Ch.Hold) (n i : Nat) (hi : i < n * 2) : (hcells ((List.range n).map f))[i]? = if i % 2 = 0 then some (.int .i64 (f (i / 2)).t) else some (.int .i64 (f (i / 2)).m) := by
  have hq : i / 2 < n := by omega
  obtain ⟨h0, h1⟩ := hcells_at ((List.range n).map f) (i / 2) (by simpa using hq)
  have e : ((List.range n).map f).getD (i / 2) Ch.Hold.zero = f (i / 2) := by simp [List.getD, hq]
  rw [e] at h0 h1
  have hm : i % 2 = 0 ∨ i % 2 = 1 := by omega
  rcases hm with hm | hm
  · rw [if_pos hm, ← h0]; congr 1; omega
  · rw [if_neg (by omega), ← h1]; congr 1; omega

set_option maxRecDepth 100000 in
theorem open_holds {H : Type} {enc : TypeId × Value → H} {w : World} {base : Nat} {spare : Nat → Bool} {held : Bool} {a : Option Addr} {len cap fuel : Nat} {y : DataW H × List MemPlace}
    (hk : Try.prog.cellsOf 197 = 2) (k2 : Try.prog.cellsOf 2 = 1) (hf : DataW.trod enc Try.prog w base spare held fuel 131 [.slice a len cap] = some y) : (∃ rs, CellsAt w a (len * 2) (hcells rs)) ∧ len ≤ maxLen ∧ len ≤ cap := by
  rcases Deep.open_slice Try.underlying131 hf with ⟨hcs, _⟩ | ⟨x, l, c, m, n, D, Pl, hcs, hb, hl, hm, hmm, _, hx⟩
  · simp at hcs
    obtain ⟨rfl, rfl, rfl⟩ := hcs
    exact ⟨⟨[], rfl, fun h => absurd h (by simp)⟩, by simp, by simp⟩
  · simp at hcs
    obtain ⟨rfl, rfl, rfl⟩ := hcs
    have hlm : len ≤ m := by rw [hmm]; split <;> omega
    refine ⟨?_, by omega, by omega⟩
    rw [hk] at hx
    obtain ⟨f, hf⟩ := @Deep.choose_lt Ch.Hold ⟨Ch.Hold.zero⟩ len (fun i r => w.cell? (x.add (i * 2)) = some (.int .i64 r.t) ∧ w.cell? (x.add (i * 2 + 1)) = some (.int .i64 r.m)) (fun i hi => by
      obtain ⟨cs', h1, h2⟩ := hx i (by omega)
      obtain ⟨_, hlen, hcell⟩ := World.cells?_some h1
      obtain ⟨xs, n', _, _, hlen2, hl1, hg⟩ := DataW.trod_struct Try.underlying197 h2
      match cs', hlen, xs, hl1 with
      | [c0, c1], _, [y0, y1], _ =>
        have g0 : DataW.trod enc Try.prog w base spare held n' 2 [c0] = some y0 := by simpa [k2] using hg 0 _ rfl
        have g1 : DataW.trod enc Try.prog w base spare held n' 2 [c1] = some y1 := by simpa [k2] using hg 1 _ rfl
        obtain ⟨rk, e0, _, _⟩ := DataW.trod_int Try.underlying2 g0
        obtain ⟨rv, e1, _, _⟩ := DataW.trod_int Try.underlying2 g1
        simp only [List.cons.injEq, and_true] at e0 e1
        subst e0 e1
        have q0 := hcell 0 (by omega)
        have q1 := hcell 1 (by omega)
        rw [Deep.add_add] at q0 q1
        exact ⟨⟨rk, rv⟩, q0, q1⟩)
    refine ⟨(List.range len).map f, by rw [hcells_len]; simp, fun hpos => ?_⟩
    obtain ⟨b, off, spot⟩ := x
    have hspot : spot = none := by
      have := World.cell?_spot (hf 0 (by omega)).1
      simpa [Addr.add] using this
    subst hspot
    refine ⟨b, off, rfl, fun i hi => ?_⟩
    rw [hcells_map f len i hi]
    obtain ⟨q0, q1⟩ := hf (i / 2) (by omega)
    simp only [add_plain] at q0 q1
    have hm3 : i % 2 = 0 ∨ i % 2 = 1 := by omega
    rcases hm3 with h3 | h3
    · rw [if_pos h3, ← q0]; congr 2; omega
    · rw [if_neg (by omega), ← q1]; congr 2; omega

set_option maxRecDepth 100000 in
/-- A list of locks that came in, opened. -/
theorem open_locksF {H : Type} {enc : TypeId × Value → H} {w : World} {base : Nat} {spare : Nat → Bool} {held : Bool} {a : Option Addr} {len cap : Nat} {d : DataW H} {p : List MemPlace}
    (hk : Try.prog.cellsOf 133 = 3) (k2 : Try.prog.cellsOf 2 = 1) (k3 : Try.prog.cellsOf 131 = 1) (h : DataW.Trod enc Try.prog w base spare held 60 (.slice a len cap) d p) : (∃ ls, LkAt w a len ls) ∧ len ≤ 9223372036854775807 := by
  obtain ⟨fuel, hf⟩ := h
  rcases Deep.open_slice Try.underlying60 hf with ⟨hcs, _⟩ | ⟨x, l, c, m, n, D, Pl, hcs, hb, hl, hm, hmm, _, hx⟩
  · simp [Value.cells] at hcs
    obtain ⟨rfl, rfl, rfl⟩ := hcs
    exact ⟨⟨[], rfl, fun h => absurd h (by simp)⟩, by simp⟩
  · simp [Value.cells] at hcs
    obtain ⟨rfl, rfl, rfl⟩ := hcs
    have hlm : len ≤ m := by rw [hmm]; split <;> omega
    refine ⟨?_, by unfold maxLen at hm; omega⟩
    rw [hk] at hx
    obtain ⟨f, hf⟩ := @Deep.choose_lt Ch.Lock ⟨Ch.Lock.zero⟩ len (fun i r => ∃ ah nh ch aq nq cq, w.cell? (x.add (i * 3)) = some (.int .i64 r.r) ∧ w.cell? (x.add (i * 3 + 1)) = some (.slice ah nh ch) ∧ w.cell? (x.add (i * 3 + 2)) = some (.slice aq nq cq) ∧ CellsAt w ah (nh * 2) (hcells r.hs) ∧ CellsAt w aq (nq * 2) (hcells r.qs) ∧ nh ≤ 9223372036854775807 ∧ nq ≤ 9223372036854775807 ∧ nh ≤ ch ∧ nq ≤ cq) (fun i hi => by
      obtain ⟨cs', h1, h2⟩ := hx i (by omega)
      obtain ⟨_, hlen, hcell⟩ := World.cells?_some h1
      obtain ⟨y0, y1, y2, n', _, _, g0, g1, g2⟩ := Deep.trod_struct3 Try.underlying133 h2
      match cs', hlen with
      | [c0, c1, c2], _ =>
        simp only [k2, k3, List.drop_zero, List.take_succ_cons, List.take_zero, List.drop_succ_cons] at g0 g1 g2
        obtain ⟨rk, e0, _, _⟩ := DataW.trod_int Try.underlying2 g0
        obtain ⟨ah, nh, ch, e1⟩ := slice_form Try.underlying131 g1
        obtain ⟨aq, nq, cq, e2⟩ := slice_form Try.underlying131 g2
        simp only [List.cons.injEq, and_true] at e0 e1 e2
        subst e0 e1 e2
        obtain ⟨⟨hs, hh⟩, hnh, hch⟩ := open_holds (by kernel_rfl) k2 g1
        obtain ⟨⟨qs, hq⟩, hnq, hcq⟩ := open_holds (by kernel_rfl) k2 g2
        unfold maxLen at hnh hnq
        have q0 := hcell 0 (by omega)
        have q1 := hcell 1 (by omega)
        have q2 := hcell 2 (by omega)
        rw [Deep.add_add] at q0 q1 q2
        exact ⟨⟨rk, hs, qs⟩, ah, nh, ch, aq, nq, cq, q0, q1, q2, hh, hq, by omega, by omega, hch, hcq⟩)
    refine ⟨(List.range len).map f, by simp, fun hpos => ?_⟩
    obtain ⟨b, off, spot⟩ := x
    have hspot : spot = none := by
      obtain ⟨_, _, _, _, _, _, h0, _⟩ := hf 0 (by omega)
      have := World.cell?_spot h0
      simpa [Addr.add] using this
    subst hspot
    refine ⟨b, off, rfl, fun i hi => ?_⟩
    obtain ⟨ah, nh, ch, aq, nq, cq, q0, q1, q2, hr⟩ := hf i hi
    simp only [add_plain] at q0 q1 q2
    have e2 : Ch.lkAt ((List.range len).map f) i = f i := by simp [Ch.lkAt, List.getD, hi]
    rw [e2]
    exact ⟨ah, nh, ch, aq, nq, cq, q0, q1, q2, hr⟩
theorem open_locks {H : Type} {enc : TypeId × Value → H} {w : World} {base : Nat} {spare : Nat → Bool} {held : Bool} {a : Option Addr} {len cap : Nat} {d : DataW H} {p : List MemPlace}
    (h : DataW.Trod enc Try.prog w base spare held 60 (.slice a len cap) d p) : (∃ ls, LkAt w a len ls) ∧ len ≤ 9223372036854775807 :=
  open_locksF (by kernel_rfl) (by kernel_rfl) (by kernel_rfl) h
end Go.Proofs.Ytbeolkklnlljcaa
