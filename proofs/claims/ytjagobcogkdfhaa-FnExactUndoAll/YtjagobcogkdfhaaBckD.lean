
/- What is put off: one deferred step, and all of them. -/
import Derived.Test.YtjagobcogkdfhaaBckI
import Derived.Defers
import Derived.Recover
namespace Go.Proofs.Ytjagobcogkdfhaa
open Go.RowKit

/-- All blocks but R and the records' own are as they were. -/
structure KeptB (R : Nat) (rv : Value) (w w' : World) : Prop where
  os : w'.os = w.os
  tape : w'.tape = w.tape
  output : w'.output = w.output
  size : w.heap.size ≤ w'.heap.size
  block : ∀ k, k < w.heap.size → k ≠ R → some k ≠ rv.ownBlock → w'.heap[k]? = w.heap[k]?

theorem heap_three {w : World} {R : Nat} {t : TypeId} {u0 u1 u2 : Value} (h : w.heap[R]? = some (.cells #[u0, u1, u2] t (0, 0))) (v0 v1 v2 : Value) : (((w.setCell ⟨R, 0, none⟩ v0).setCell ⟨R, 1, none⟩ v1).setCell ⟨R, 2, none⟩ v2).heap[R]? = some (.cells #[v0, v1, v2] t (0, 0)) := by
  have h0 := Joins.block_setCell (i := 0) h v0
  have h1 := Joins.block_setCell (i := 1) h0 v1
  have h2 := Joins.block_setCell (i := 2) h1 v2
  simpa using h2

set_option linter.unusedSimpArgs false in
set_option maxRecDepth 20000 in
set_option maxHeartbeats 2000000 in
theorem back_deferred (R T X : Nat) (c tx bk : Int) (bh : Bool) (bv : Int) (a r : Option Addr) (m cap p q B : Nat) (ls : List (List Ch.Row)) (rs : List Ch.Rec) (u : FrameMode) (w : World)
    (hR : w.heap[R]? = some (.cells #[.int .i64 c, .slice a m cap, .slice r p q] 61 (0, 0))) (hT : w.heap[T]? = some (.cells #[.int .i64 tx] 2 (0, 0))) (hX : w.heap[X]? = some (.cells #[.int .i64 bk, .bool bh, .int .i64 bv] 64 (0, 0)))
    (U : OwnU w B (.slice a m cap) m ls (.slice r p q) p rs) (hRB : R < B) (hB : B ≤ w.heap.size) (hs : Ch.lvSize ls ≤ 1048576) (hp : p ≤ 1048576) :
    CallsD Try.prog 173 #[.pointer (some ⟨R, 0, none⟩), .pointer (some ⟨T, 0, none⟩), .pointer (some ⟨X, 0, none⟩)] u w fun e u' w' => u' = u ∧ e = .returned (.tuple #[]) ∧ ∃ a' m' c' r' p' q', w'.heap[R]? = some (.cells #[.int .i64 (Ch.backOne tx (c, ls, rs) ⟨bk, bh, bv⟩).1, .slice a' m' c', .slice r' p' q'] 61 (0, 0)) ∧ OwnU w' B (.slice a' m' c') m' (Ch.backOne tx (c, ls, rs) ⟨bk, bh, bv⟩).2.1 (.slice r' p' q') p' (Ch.backOne tx (c, ls, rs) ⟨bk, bh, bv⟩).2.2 ∧ KeptB R (.slice r p q) w w' ∧ (∀ g, (Value.slice r' p' q').ownBlock = some g → (Value.slice r p q).ownBlock = some g ∨ w.heap.size ≤ g) := by
  obtain ⟨x0, x1, x2, f0, f1, f2⟩ := rowThree hR
  obtain ⟨y0, y1, y2, _, _, _⟩ := rowThree hX
  have t0 : w.cell? ⟨T, 0, none⟩ = some (.int .i64 tx) := cell_of_row _ _ _ _ _ _ hT
  have SI := setBack_any c tx bk bh bv a r m cap p q B ls rs w U hB hs hp
  have hrR : (Value.slice r p q).ownBlock ≠ some R := by
    obtain ⟨vs, lo, hi, h1, h2, _⟩ := U
    exact fun e => by have := (owns_lt h2 R e).1; omega
  unfold BackPost at SI
  generalize Ch.backOne tx (c, ls, rs) ⟨bk, bh, bv⟩ = st at *
  go_enter_d Try.func173, Try.ntmps173
  go_wp2_with fail
  refine SI.mono ?_
  rintro e w1 ⟨a', m', c', r', p', q', rfl, U1, gr1, at1⟩
  have hR1 := block_grown gr1 hR hrR
  obtain ⟨x0, x1, x2, f0, f1, f2⟩ := rowThree hR1
  go_wp2
  refine ⟨rfl, .tuple #[], by simp [results, Try.results173, go_sem], rfl, a', m', c', r', p', q', heap_three hR1 _ _ _, ?_, ?_, at1⟩
  · obtain ⟨vs, lo, hi, h1, h2, h3, h4, h5⟩ := U1
    exact ⟨vs, lo, hi, ((h1.store3 hRB _).store3 hRB _).store3 hRB _, ownsRow_setCell_below (ownsRow_setCell_below (ownsRow_setCell_below h2 (a := ⟨R, 0, none⟩) hRB _) (a := ⟨R, 1, none⟩) hRB _) (a := ⟨R, 2, none⟩) hRB _, h3, by simpa using h4, h5⟩
  · refine ⟨gr1.os, gr1.tape, gr1.output, by simpa using gr1.size, fun k hk hne hne2 => ?_⟩
    rw [Below.heap_setCell _ _ _ _ (by exact hne), Below.heap_setCell _ _ _ _ (by exact hne), Below.heap_setCell _ _ _ _ (by exact hne)]
    exact gr1.block k hk hne2

/-- What is put off for the first k of them, the last one first. -/
def putOff (R T H : Nat) : Nat → List Deferred
  | 0 => []
  | k + 1 => { target := .fn (.func 173) #[.pointer (some ⟨R, 0, none⟩), .pointer (some ⟨T, 0, none⟩), .pointer (some ⟨H + k, 0, none⟩)], args := #[] } :: putOff R T H k

/-- All that is put off, done. -/
theorem leaves_back (B0 R T H B N : Nat) (hB0 : B0 ≤ R) (tx : Int) (ls : List (List Ch.Row)) (bs : List Ch.Bf) (hg : Ch.leavesFault ls = 0) (hN : bs.length ≤ N) (hN4 : N ≤ 1000) (hRB : R < B) (hTB : T < B) (hTR : T ≠ R) (hBH : B ≤ H) (tmps : Array Value) (Q : Ending → World → Prop) (W : World)
    (hres : ∀ w' x0 x1 x2, w'.heap[R]? = some (.cells #[x0, x1, x2] 61 (0, 0)) → (results Try.f112 tmps).run Try.prog w' = .ok (.agg #[x0, x1, x2]) w')
    (hQ : ∀ w' a m cap r p q, OwnU w' B (.slice a m cap) m (Ch.backAll tx ls bs).2.1 (.slice r p q) p (Ch.backAll tx ls bs).2.2 → Below B0 W w' → Q (.returned (.agg #[.int .i64 (Ch.backAll tx ls bs).1, .slice a m cap, .slice r p q])) w') :
    ∀ (k : Nat), k ≤ bs.length → ∀ (w : World) (a : Option Addr) (m cap : Nat) (r : Option Addr) (p q : Nat), w.heap[R]? = some (.cells #[.int .i64 (Ch.backAll tx ls (bs.drop k)).1, .slice a m cap, .slice r p q] 61 (0, 0)) → w.heap[T]? = some (.cells #[.int .i64 tx] 2 (0, 0)) →
      (∀ i, i < k → w.heap[H + i]? = some (.cells #[.int .i64 (bs.getD i Ch.Bf.zero).k, .bool (bs.getD i Ch.Bf.zero).h, .int .i64 (bs.getD i Ch.Bf.zero).v] 64 (0, 0))) →
      OwnU w B (.slice a m cap) m (Ch.backAll tx ls (bs.drop k)).2.1 (.slice r p q) p (Ch.backAll tx ls (bs.drop k)).2.2 → (∀ g, (Value.slice r p q).ownBlock = some g → H + bs.length ≤ g) → H + bs.length ≤ w.heap.size → Below B0 W w → W.heap.size ≤ w.heap.size → B0 ≤ W.heap.size →
      Leaves Try.prog Try.f112 tmps Q (putOff R T H k) .returning w := by
  intro k
  induction k with
  | zero =>
    intro _ w a m cap r p q hR hT hX U hrec hsz bel _ _
    rw [List.drop_zero] at hR U
    refine ⟨_, hres w _ _ _ hR, ?_⟩
    exact hQ w a m cap r p q U bel
  | succ k ih =>
    intro hk w a m cap r p q hR hT hX U hrec hsz bel hW hBW
    have hkl : k < bs.length := by omega
    have keep := Ch.back_keeps (tx := tx) hg (bs.drop (k + 1))
    have hlen : p ≤ 1048576 := by
      have := U.len.2
      have h2 := keep.2.1
      simp at h2
      omega
    have hnext := Ch.back_next (tx := tx) (ls := ls) hkl
    generalize hst : Ch.backAll tx ls (bs.drop (k + 1)) = st at *
    obtain ⟨c, l, rs⟩ := st
    have hXk := hX k (by omega)
    unfold putOff
    refine leaves_cons (f := 173) (args := #[.pointer (some ⟨R, 0, none⟩), .pointer (some ⟨T, 0, none⟩), .pointer (some ⟨H + k, 0, none⟩)]) (by simp) (by simp [go_sem]) ?_
    refine (back_deferred R T (H + k) c tx _ _ _ a r m cap p q B l rs .returning w hR hT hXk U hRB (by omega) keep.1 hlen).mono ?_
    rintro e u' w' ⟨rfl, rfl, a', m', c', r', p', q', hR', U', kb, at'⟩
    rw [← hnext] at hR' U'
    have hne : ∀ j, j < H + bs.length → some j ≠ (Value.slice r p q).ownBlock := fun j hj e => by have := hrec j e.symm; omega
    refine ih (by omega) w' a' m' c' r' p' q' hR' ((kb.block T (by omega) hTR (hne T (by omega))).trans hT) (fun i hi => (kb.block (H + i) (by omega) (by omega) (hne (H + i) (by omega))).trans (hX i (by omega))) U' (fun g hg' => ?_) (Nat.le_trans hsz kb.size) ?_ (Nat.le_trans hW kb.size) hBW
    · rcases at' g hg' with h | h
      · exact hrec g h
      · omega
    · refine ⟨kb.os.trans bel.os, kb.tape.trans bel.tape, kb.output.trans bel.output, Nat.le_trans bel.size kb.size, fun j hj => ?_⟩
      exact (kb.block j (by omega) (by omega) (hne j (by omega))).trans (bel.block j hj)
end Go.Proofs.Ytjagobcogkdfhaa
