
/- PutRow of the model. -/
import Derived.Test.YtjjbjdjkcckgmaaPutE
namespace Go.Proofs.Ytjjbjdjkcckgmaa
open Go.RowKit

theorem Ch.putR_code {ls : List (List Ch.Row)} {r : Ch.Row} (h : (Ch.leavesFault ls != 0) = true) : Ch.putR ls r = (Ch.leavesFault ls, []) := by rw [Ch.putR, if_pos h]
theorem Ch.putR_row {ls : List (List Ch.Row)} {r : Ch.Row} (h : (Ch.leavesFault ls != 0) = false) (hr : (r.fault != 0) = true) : Ch.putR ls r = (r.fault, []) := by rw [Ch.putR, if_neg (by simp [h]), if_pos hr]
theorem Ch.putR_many {ls : List (List Ch.Row)} {r : Ch.Row} (h : (Ch.leavesFault ls != 0) = false) (hr : (r.fault != 0) = false) (hm : 60 < (Ch.put ls r).length) : Ch.putR ls r = (2, []) := by rw [Ch.putR, if_neg (by simp [h]), if_neg (by simp [hr]), if_pos hm]
theorem Ch.putR_ok {ls : List (List Ch.Row)} {r : Ch.Row} (h : (Ch.leavesFault ls != 0) = false) (hr : (r.fault != 0) = false) (hm : ¬ 60 < (Ch.put ls r).length) : Ch.putR ls r = (0, Ch.put ls r) := by rw [Ch.putR, if_neg (by simp [h]), if_neg (by simp [hr]), if_neg hm]

end Go.Proofs.Ytjjbjdjkcckgmaa
