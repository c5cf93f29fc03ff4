
/- The law FnExactDropRow. -/
import Derived.Test.YtjagobcogkdfhaaDropI
import Derived.Test.YtjagobcogkdfhaaResL
namespace Go.Proofs.Ytjagobcogkdfhaa
open Go.RowKit

theorem Ch.sum_sub {a b : List (List Ch.Row)} (h : List.Sublist a b) : (a.map List.length).sum ≤ (b.map List.length).sum := by
  induction h with
  | slnil => simp
  | cons x _ ih => simp only [List.map_cons, List.sum_cons]; omega
  | cons_cons x _ ih => simp only [List.map_cons, List.sum_cons]; omega
theorem Ch.map_filter_sum (p : Ch.Row → Bool) (ls : List (List Ch.Row)) : ((ls.map (List.filter p)).map List.length).sum ≤ (ls.map List.length).sum := by
  induction ls with
  | nil => simp
  | cons l ls ih =>
    simp only [List.map_cons, List.sum_cons]
    have := List.length_filter_le p l
    omega
theorem Ch.dropR_small {ls : List (List Ch.Row)} (hs : Ch.lvSize ls ≤ 1048576) (key : Int) : Ch.lvSize (Ch.dropR ls key).2 ≤ 1048576 := by
  have h0 : Ch.lvSize ([] : List (List Ch.Row)) ≤ 1048576 := by decide
  unfold Ch.dropR
  by_cases h1 : (Ch.asked ls key != 0) = true
  · rw [if_pos h1]; exact h0
  · rw [if_neg h1]
    cases Ch.findR ls key with
    | none => exact h0
    | some r =>
      show Ch.lvSize (Ch.drop ls key) ≤ 1048576
      have hsub := List.filter_sublist (p := Ch.full) (l := ls.map (List.filter (Ch.notK key)))
      have e1 := Ch.sum_sub hsub
      have e2 := Ch.map_filter_sum (Ch.notK key) ls
      have e3 := hsub.length_le
      unfold Ch.lvSize Ch.drop at *
      simp only [List.length_map] at e3
      omega
theorem small_marks {ls : List (List Ch.Row)} (h : ∀ i, (ls.getD i []).length ≤ 9223372036854775807) : ∀ i, ((lvMarks ls).getD i []).length ≤ 9223372036854775807 := by
  intro i
  by_cases hi : i < ls.length
  · rw [lvMarks_at ls i hi, lvMark_len]; exact h i
  · simp [List.getD, List.getElem?_eq_none (show (lvMarks ls).length ≤ i by rw [lvMarks_len]; omega)]

end Go.Proofs.Ytjagobcogkdfhaa
