
/- The program: who is let in; FreeLocks. -/
import Derived.Test.YtjagobcogkdfhaaLkE
import Derived.Test.YtjagobcogkdfhaaLkZ
namespace Go.Proofs.Ytjagobcogkdfhaa
open Go.RowKit

def lenV (v : Value) : Nat := match v with
  | .slice _ m _ => m
  | _ => 0

abbrev OwnO (w : World) (B : Nat) (v : Value) (n : Nat) (ls : List Ch.Lock) (vs : List (Value × Value)) : Prop := OwnK 181 w B v n ls vs
theorem one_set {w : World} {B n o cap k : Nat} {ls : List Ch.Lock} {l : Ch.Lock} {vs : List (Value × Value)} (h : OwnO w B (.slice (some ⟨o, 0, none⟩) n cap) n (ls.set k l) vs) (hk : k < n) :
    ∃ ah ch aq cq, w.cell? ⟨o, k * 3, none⟩ = some (.int .i64 l.r) ∧ w.cell? ⟨o, k * 3 + 1, none⟩ = some (.slice ah l.hs.length ch) ∧ w.cell? ⟨o, k * 3 + 2, none⟩ = some (.slice aq l.qs.length cq) ∧ CellsAt w ah (l.hs.length * 2) (hcells l.hs) ∧ CellsAt w aq (l.qs.length * 2) (hcells l.qs) ∧ B ≤ o ∧ o < w.heap.size := by
  obtain ⟨ah, ch, aq, cq, hp, c0, c1, c2, f1, f2, o1, o2, ne, nr, ob1, ob2⟩ := h.one hk
  have e : Ch.lkAt (ls.set k l) k = l := by rw [lk_set ls k k l (by have := h.len; simp at this; omega), if_pos rfl]
  rw [e] at c0 c1 c2 o1 o2
  exact ⟨ah, ch, aq, cq, c0, c1, c2, owns_cells o1, owns_cells o2, ob1, ob2⟩

end Go.Proofs.Ytjagobcogkdfhaa
