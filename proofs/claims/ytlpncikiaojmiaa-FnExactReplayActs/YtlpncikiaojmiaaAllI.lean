
/- RowsOf of the model and of the program. -/
import Derived.Test.YtlpncikiaojmiaaAllW
namespace Go.Proofs.Ytlpncikiaojmiaa
open Go.RowKit

/-- What RowsOf answers. -/
def Ch.rowsR (ls : List (List Ch.Row)) : Int × List Ch.Row := if leavesFault ls = 0 then (0, ls.flatten) else (leavesFault ls, [])
theorem Ch.rowsR_ok {ls : List (List Ch.Row)} (h : leavesFault ls = 0) : rowsR ls = (0, ls.flatten) := by rw [rowsR, if_pos h]
theorem Ch.rowsR_no {ls : List (List Ch.Row)} (h : (leavesFault ls != 0) = true) : rowsR ls = (leavesFault ls, []) := by rw [rowsR, if_neg (by simpa using h)]
theorem Ch.good_at {ls : List (List Ch.Row)} {n : Nat} (hl : Hid (n = ls.length)) (h : leavesFault ls = 0) : ∀ k, k < n → (ls.getD k []).length ≠ 0 := fun k hk => (good_leaf h k (by have := hl.out; omega)).1

end Go.Proofs.Ytlpncikiaojmiaa
