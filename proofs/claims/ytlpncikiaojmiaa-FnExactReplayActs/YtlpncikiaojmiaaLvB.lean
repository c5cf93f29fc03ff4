
/- Leaves in memory: lists whose cells are lists of rows. -/
import Derived.Test.YtlpncikiaojmiaaWth
import Derived.Test.YtlpncikiaojmiaaRowa
import Derived.Test.YtlpncikiaojmiaaMath3
namespace Go.Proofs.Ytlpncikiaojmiaa
open Go.RowKit

/-- Leaves that are read: cells that are lists, and behind each its rows. -/
def LvAt (w : World) (a : Option Addr) (n : Nat) (ls : List (List Ch.Row)) : Prop :=
  ls.length = n ∧ ∃ vs : List Value, CellsAt w a n vs ∧ ∀ i, i < n → ∃ ai ni ci, vs[i]? = some (.slice ai ni ci) ∧ CellsAt w ai (ni * 3) (rcells (ls.getD i [])) ∧ ni ≤ 9223372036854775807

theorem LvAt.below {w w' : World} {a : Option Addr} {n : Nat} {ls : List (List Ch.Row)} (h : LvAt w a n ls) (hb : Below w.heap.size w w') : LvAt w' a n ls := by
  obtain ⟨hl, vs, hc, hi⟩ := h
  refine ⟨hl, vs, hc.below hb, fun i hlt => ?_⟩
  obtain ⟨ai, ni, ci, h1, h2, h3⟩ := hi i hlt
  exact ⟨ai, ni, ci, h1, h2.below hb, h3⟩

theorem LvAt.len {w : World} {a : Option Addr} {n : Nat} {ls : List (List Ch.Row)} (h : LvAt w a n ls) : Hid (n = ls.length) := h.1.symm

theorem LvAt.leaf {w : World} {a : Option Addr} {n : Nat} {ls : List (List Ch.Row)} (h : LvAt w a n ls) {k : Nat} (hk : k < n) :
    ∃ b off ai ni ci, a = some ⟨b, off, none⟩ ∧ w.cell? ⟨b, off + k, none⟩ = some (.slice ai ni ci) ∧ CellsAt w ai (ni * 3) (rcells (ls.getD k [])) ∧ ni ≤ 9223372036854775807 := by
  obtain ⟨hl, vs, hc, hi⟩ := h
  obtain ⟨ai, ni, ci, h1, h2, h3⟩ := hi k hk
  obtain ⟨b, off, ha, hcc⟩ := hc.2 (by omega)
  exact ⟨b, off, ai, ni, ci, ha, (hcc k hk).trans h1, h2, h3⟩

theorem hTake {P : Program} {l : List Oper} {Q : Exit → Act → World → Prop} {md : Region.Mode} {S : World → Prop} {i : Nat} {oi : Oper} {v : Value} {fuel : Nat} {listed : Array Bool} {a : Act} {w : World} (hi : l[i]? = some oi)
    (hs : Region.noSelect l.toArray = true) (hf : Region.free md l.toArray listed i = true) (hr : (Region.ready md l.toArray listed).contains i = true)
    (hw : Region.wanted oi (yielded l.toArray a.tmps) = true) (hy : ∀ W, S W → (execOp a.eval oi).run P W = .ok (.value v) W) (hS : S w)
    (h : wpAnyH P md l.toArray (NoPanic Q) S fuel (listed.setIfInBounds i true) (a.put oi.dst v) w) : wpAnyH P md l.toArray (NoPanic Q) S (fuel + 1) listed a w :=
  wpAnyH_take (by simpa using hi) hs hf hr (fun _ _ _ h => h) (Or.inl ⟨hw, hy⟩) hS h
theorem hSkip {P : Program} {l : List Oper} {Q : Exit → Act → World → Prop} {md : Region.Mode} {S : World → Prop} {i : Nat} {oi : Oper} {fuel : Nat} {listed : Array Bool} {a : Act} {w : World} (hi : l[i]? = some oi)
    (hs : Region.noSelect l.toArray = true) (hf : Region.free md l.toArray listed i = true) (hr : (Region.ready md l.toArray listed).contains i = true)
    (hw : Region.wanted oi (yielded l.toArray a.tmps) = false) (hS : S w)
    (h : wpAnyH P md l.toArray (NoPanic Q) S fuel (listed.setIfInBounds i true) (a.put oi.dst undef) w) : wpAnyH P md l.toArray (NoPanic Q) S (fuel + 1) listed a w :=
  wpAnyH_take (by simpa using hi) hs hf hr (fun _ _ _ h => h) (Or.inr ⟨hw, rfl⟩) hS h

end Go.Proofs.Ytlpncikiaojmiaa
