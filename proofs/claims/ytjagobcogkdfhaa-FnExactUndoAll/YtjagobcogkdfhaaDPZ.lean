/- Several texts in one: DropL, PutL. -/
import Derived.Test.YtjagobcogkdfhaaDropI
import Derived.Test.YtjagobcogkdfhaaResL
import Derived.Test.YtjagobcogkdfhaaPutH


/- The law FnExactDropRow. -/
namespace Go.Proofs.Ytjagobcogkdfhaa
open Go.RowKit

theorem Ch.sum_sub {a b : List (List Ch.Row)} (h : List.Sublist a b) : (a.map List.length).sum ≤ (b.map List.length).sum := by
  induction h with
  | slnil => simp
  | cons x _ ih => simp only [List.map_cons, List.sum_cons]; omega
  | cons_cons x _ ih => simp only [List.map_cons, List.sum_cons]; omega
theorem Ch.map_filter_sum (p : Ch.Row → Bool) (ls : List (List Ch.Row)) : ((ls.map (List.filter p)).map List.length).sum ≤ (ls.map List.length).sum := by
  induction ls with
  | nil => simp
  | cons l ls ih =>
    simp only [List.map_cons, List.sum_cons]
    have := List.length_filter_le p l
    omega
theorem Ch.dropR_small {ls : List (List Ch.Row)} (hs : Ch.lvSize ls ≤ 1048576) (key : Int) : Ch.lvSize (Ch.dropR ls key).2 ≤ 1048576 := by
  have h0 : Ch.lvSize ([] : List (List Ch.Row)) ≤ 1048576 := by decide
  unfold Ch.dropR
  by_cases h1 : (Ch.asked ls key != 0) = true
  · rw [if_pos h1]; exact h0
  · rw [if_neg h1]
    cases Ch.findR ls key with
    | none => exact h0
    | some r =>
      show Ch.lvSize (Ch.drop ls key) ≤ 1048576
      have hsub := List.filter_sublist (p := Ch.full) (l := ls.map (List.filter (Ch.notK key)))
      have e1 := Ch.sum_sub hsub
      have e2 := Ch.map_filter_sum (Ch.notK key) ls
      have e3 := hsub.length_le
      unfold Ch.lvSize Ch.drop at *
      simp only [List.length_map] at e3
      omega
theorem small_marks {ls : List (List Ch.Row)} (h : ∀ i, (ls.getD i []).length ≤ 9223372036854775807) : ∀ i, ((lvMarks ls).getD i []).length ≤ 9223372036854775807 := by
  intro i
  by_cases hi : i < ls.length
  · rw [lvMarks_at ls i hi, lvMark_len]; exact h i
  · simp [List.getD, List.getElem?_eq_none (show (lvMarks ls).length ≤ i by rw [lvMarks_len]; omega)]

end Go.Proofs.Ytjagobcogkdfhaa


/- The law FnExactPutRow. -/
namespace Go.Proofs.Ytjagobcogkdfhaa
open Go.RowKit

theorem Ch.putR_small {ls : List (List Ch.Row)} (r : Ch.Row) : Ch.lvSize (Ch.putR ls r).2 ≤ 1048576 := by
  unfold Ch.putR
  split
  · simp [Ch.lvSize]
  · split
    · simp [Ch.lvSize]
    · split
      · simp [Ch.lvSize]
      · rename_i h _ _
        exact Ch.put_size (by simpa using h)
theorem OwnV.base {w : World} {B B' n : Nat} {v : Value} {vs : List Value} {ls : List (List Ch.Row)} (h : OwnV w B v n vs ls) (hb : B' ≤ B) : OwnV w B' v n vs ls := by
  obtain ⟨hl, ho, hi, hd, hd'⟩ := h
  refine ⟨hl, owns_base ho hb, fun i hlt => ?_, hd, hd'⟩
  obtain ⟨x, h1, h2⟩ := hi i hlt
  exact ⟨x, h1, owns_base h2 hb⟩
theorem OwnV.store {w : World} {B n : Nat} {v : Value} {vs : List Value} {ls : List (List Ch.Row)} (h : OwnV w B v n vs ls) {p o : Nat} {u : Value} (hv : ∀ g, v.ownBlock = some g → g ≠ p) (hx : ∀ (i : Nat) (x : Value) (g : Nat), vs[i]? = some x → x.ownBlock = some g → g ≠ p) : OwnV (w.setCell ⟨p, o, none⟩ u) B v n vs ls := by
  obtain ⟨hl, ho, hi, hd, hd'⟩ := h
  refine ⟨hl, owns_set ho hv u, fun i hlt => ?_, hd, hd'⟩
  obtain ⟨x, h1, h2⟩ := hi i hlt
  exact ⟨x, h1, owns_set h2 (fun g hg => hx i x g h1 hg) u⟩
/-- A result of leaves in its box: P; its lists lie from lo to hi. -/
def PutAt (wx W0 : World) (P : Nat) (c : Int) (a2 : Option Addr) (m2 c2 : Nat) (vs2 : List Value) (rs : List (List Ch.Row)) (lo hi : Nat) : Prop :=
  W0.heap.size ≤ P ∧ P < wx.heap.size ∧ W0.heap.size ≤ lo ∧ hi ≤ wx.heap.size ∧ (P < lo ∨ hi ≤ P) ∧ wx.cell? ⟨P, 0, none⟩ = some (.int .i64 c) ∧ wx.cell? ⟨P, 1, none⟩ = some (.slice a2 m2 c2) ∧ OwnV wx W0.heap.size (.slice a2 m2 c2) m2 vs2 rs ∧
    (∀ g, (Value.slice a2 m2 c2).ownBlock = some g → lo ≤ g ∧ g < hi) ∧ (∀ (i : Nat) (x : Value) (g : Nat), vs2[i]? = some x → x.ownBlock = some g → lo ≤ g ∧ g < hi) ∧ Below W0.heap.size W0 wx

end Go.Proofs.Ytjagobcogkdfhaa

