
/- The law FnExactForceWal. -/
import Derived.Test.YtapahapjajijeaaMarkF
namespace Go.Proofs.Ytapahapjajijeaa
open Go.RowKit

/-- What ForceWal answers: the code, the count, the sure bytes. -/
def Ch.forceR (ss ls : List Int) : Int × Nat × List Int := if Ch.walFault ss ls = 0 then (0, (Ch.reads (ss ++ ls)).length, ss ++ ls) else (Ch.walFault ss ls, 0, [])

theorem sum_of_fault {ss ls : List Int} (h0 : Ch.walFault ss ls = 0) : ss.length + ls.length ≤ 4000 := by
  unfold Ch.walFault at h0
  by_cases hbig : 4000 < ss.length + ls.length
  · rw [if_pos hbig] at h0; omega
  · omega

theorem implForce_any (ad ad' : Addr) (n m cap cap' : Nat) (ss ls : List Int) (w : World) (h : CellsAt w (some ad) n (bts ss)) (h' : CellsAt w (some ad') m (bts ls)) (hb : IsB ss) (hb' : IsB ls) (hn : n ≤ 1048576) (hm : m ≤ 1048576) (hcap : n ≤ cap) (hcap' : m ≤ cap') :
    Calls Try.prog 25 #[.agg #[.slice (some ad) n cap, .slice (some ad') m cap']] w fun e w' => ∃ a1 k c1, e = .returned (.agg #[.int .i64 (Ch.forceR ss ls).1, .int .i64 (Ch.forceR ss ls).2.1, .slice a1 k c1, .slice none 0 0]) ∧ k ≤ 4000 ∧ w'.ownsRow w.heap.size 5 1 (.slice a1 k c1) k (bts (Ch.forceR ss ls).2.2) ∧ Below w.heap.size w w' := by
  have e1 := h.len.out
  have e2 := h'.len.out
  by_cases h0 : Ch.walFault ss ls = 0
  · have := sum_of_fault h0
    have e : (Ch.forceR ss ls) = (0, (Ch.reads (ss ++ ls)).length, ss ++ ls) := by unfold Ch.forceR; rw [if_pos h0]
    rw [e]
    refine (implForce_ok ad ad' n m cap cap' ss ls w h h' hb hb' hn hm hcap hcap' h0).mono ?_
    rintro e w' ⟨a1, c1, rfl, o, b⟩
    exact ⟨a1, n + m, c1, rfl, by omega, o, b⟩
  · have e : (Ch.forceR ss ls) = (Ch.walFault ss ls, 0, []) := by unfold Ch.forceR; rw [if_neg h0]
    rw [e]
    refine (implForce_no ad ad' n m cap cap' ss ls w h h' hb hb' hn hm hcap hcap' _ rfl (by simpa using h0)).mono ?_
    rintro e w' ⟨rfl, b⟩
    exact ⟨none, 0, 0, rfl, by omega, World.ownsRow_nil _ _ _ _, b⟩

theorem specForce_any (ad ad' : Addr) (n m cap cap' : Nat) (ss ls : List Int) (w : World) (h : CellsAt w (some ad) n (bts ss)) (h' : CellsAt w (some ad') m (bts ls)) (hb : IsB ss) (hb' : IsB ls) (hn : n ≤ 1048576) (hm : m ≤ 1048576) (hcap : n ≤ cap) (hcap' : m ≤ cap') :
    Calls Try.prog 131 #[.agg #[.slice (some ad) n cap, .slice (some ad') m cap']] w fun e w' => ∃ a1 k c1 a2 c2, e = .returned (.agg #[.int .i64 (Ch.forceR ss ls).1, .int .i64 (Ch.forceR ss ls).2.1, .slice a1 k c1, .slice a2 0 c2]) ∧ k ≤ 4000 ∧ w'.ownsRow w.heap.size 5 1 (.slice a1 k c1) k (bts (Ch.forceR ss ls).2.2) ∧ Below w.heap.size w w' := by
  have e1 := h.len.out
  have e2 := h'.len.out
  by_cases h0 : Ch.walFault ss ls = 0
  · have := sum_of_fault h0
    have e : (Ch.forceR ss ls) = (0, (Ch.reads (ss ++ ls)).length, ss ++ ls) := by unfold Ch.forceR; rw [if_pos h0]
    rw [e]
    refine (specForce_ok ad ad' n m cap cap' ss ls w h h' hb hb' hn hm hcap hcap' h0).mono ?_
    rintro e w' ⟨a1, c1, a2, c2, rfl, o, b⟩
    exact ⟨a1, n + m, c1, a2, c2, rfl, by omega, o, b⟩
  · have e : (Ch.forceR ss ls) = (Ch.walFault ss ls, 0, []) := by unfold Ch.forceR; rw [if_neg h0]
    rw [e]
    refine (specForce_no ad ad' n m cap cap' ss ls w h h' hb hb' hn hm hcap hcap' _ rfl (by simpa using h0)).mono ?_
    rintro e w' ⟨rfl, b⟩
    exact ⟨none, 0, 0, none, 0, rfl, by omega, World.ownsRow_nil _ _ _ _, b⟩

theorem nil_cells (W : World) (a : Option Addr) : CellsAt W a 0 (bts []) := ⟨rfl, fun h => absurd h (by simp)⟩
theorem box4 {w w1 : World} {t : TypeId} {c0 c1 c2 c3 : Value} (b : Below (w.alloc (.cells #[c0, c1, c2, c3] t)).heap.size (w.alloc (.cells #[c0, c1, c2, c3] t)) w1) :
    w1.cell? ⟨w.heap.size, 0, none⟩ = some c0 ∧ w1.cell? ⟨w.heap.size, 1, none⟩ = some c1 ∧ w1.cell? ⟨w.heap.size, 2, none⟩ = some c2 ∧ w1.cell? ⟨w.heap.size, 3, none⟩ = some c3 := ⟨box_cell b 0, box_cell b 1, box_cell b 2, box_cell b 3⟩

end Go.Proofs.Ytapahapjajijeaa
