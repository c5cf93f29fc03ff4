
/- Results that are leaves: comparisons, marks. -/
import Derived.Test.YthfanfnbjldddaaGreatMarkL
import Derived.Test.YthfanfnbjldddaaGreatForW
namespace Go.Proofs.YthfanfnbjldddaaGreat
open Go.RowKit

theorem OwnV.within {lo hi : Nat} {w w' : World} {B n : Nat} {v : Value} {vs : List Value} {ls : List (List Ch.Row)} (h : OwnV w B v n vs ls) (hw : Within lo hi w w') (hv : ∀ g, v.ownBlock = some g → g < lo ∨ hi ≤ g)
    (hi' : ∀ (i : Nat) (x : Value) (g : Nat), vs[i]? = some x → x.ownBlock = some g → g < lo ∨ hi ≤ g) : OwnV w' B v n vs ls := by
  obtain ⟨hl, ho, hi, hd, hd'⟩ := h
  refine ⟨hl, hw.owns ho hv, fun i hlt => ?_, hd, hd'⟩
  obtain ⟨x, h1, h2⟩ := hi i hlt
  exact ⟨x, h1, hw.owns h2 (fun g hg => hi' i x g h1 hg)⟩

theorem lvMarks_at (ls : List (List Ch.Row)) (k : Nat) (h : k < ls.length) : (lvMarks ls).getD k [] = lvMark ls k := by
  simp [lvMarks, List.getD, h]
theorem lvMarks_len (ls : List (List Ch.Row)) : (lvMarks ls).length = ls.length := by simp [lvMarks]
theorem lvMark_len (ls : List (List Ch.Row)) (k : Nat) : (lvMark ls k).length = (ls.getD k []).length := by simp [lvMark, rmarks_len]

end Go.Proofs.YthfanfnbjldddaaGreat
