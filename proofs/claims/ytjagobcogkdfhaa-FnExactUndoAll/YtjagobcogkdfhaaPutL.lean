
/- The law FnExactPutRow. -/
import Derived.Test.YtjagobcogkdfhaaPutH
import Derived.Test.YtjagobcogkdfhaaDropL
namespace Go.Proofs.Ytjagobcogkdfhaa
open Go.RowKit

theorem Ch.putR_small {ls : List (List Ch.Row)} (r : Ch.Row) : Ch.lvSize (Ch.putR ls r).2 ≤ 1048576 := by
  unfold Ch.putR
  split
  · simp [Ch.lvSize]
  · split
    · simp [Ch.lvSize]
    · split
      · simp [Ch.lvSize]
      · rename_i h _ _
        exact Ch.put_size (by simpa using h)
theorem OwnV.base {w : World} {B B' n : Nat} {v : Value} {vs : List Value} {ls : List (List Ch.Row)} (h : OwnV w B v n vs ls) (hb : B' ≤ B) : OwnV w B' v n vs ls := by
  obtain ⟨hl, ho, hi, hd, hd'⟩ := h
  refine ⟨hl, owns_base ho hb, fun i hlt => ?_, hd, hd'⟩
  obtain ⟨x, h1, h2⟩ := hi i hlt
  exact ⟨x, h1, owns_base h2 hb⟩
theorem OwnV.store {w : World} {B n : Nat} {v : Value} {vs : List Value} {ls : List (List Ch.Row)} (h : OwnV w B v n vs ls) {p o : Nat} {u : Value} (hv : ∀ g, v.ownBlock = some g → g ≠ p) (hx : ∀ (i : Nat) (x : Value) (g : Nat), vs[i]? = some x → x.ownBlock = some g → g ≠ p) : OwnV (w.setCell ⟨p, o, none⟩ u) B v n vs ls := by
  obtain ⟨hl, ho, hi, hd, hd'⟩ := h
  refine ⟨hl, owns_set ho hv u, fun i hlt => ?_, hd, hd'⟩
  obtain ⟨x, h1, h2⟩ := hi i hlt
  exact ⟨x, h1, owns_set h2 (fun g hg => hx i x g h1 hg) u⟩
/-- A result of leaves in its box: P; its lists lie from lo to hi. -/
def PutAt (wx W0 : World) (P : Nat) (c : Int) (a2 : Option Addr) (m2 c2 : Nat) (vs2 : List Value) (rs : List (List Ch.Row)) (lo hi : Nat) : Prop :=
  W0.heap.size ≤ P ∧ P < wx.heap.size ∧ W0.heap.size ≤ lo ∧ hi ≤ wx.heap.size ∧ (P < lo ∨ hi ≤ P) ∧ wx.cell? ⟨P, 0, none⟩ = some (.int .i64 c) ∧ wx.cell? ⟨P, 1, none⟩ = some (.slice a2 m2 c2) ∧ OwnV wx W0.heap.size (.slice a2 m2 c2) m2 vs2 rs ∧
    (∀ g, (Value.slice a2 m2 c2).ownBlock = some g → lo ≤ g ∧ g < hi) ∧ (∀ (i : Nat) (x : Value) (g : Nat), vs2[i]? = some x → x.ownBlock = some g → lo ≤ g ∧ g < hi) ∧ Below W0.heap.size W0 wx

end Go.Proofs.Ytjagobcogkdfhaa
