
/- Lists of records: how many, copied; their faults, of the program and of the model. -/
import Derived.Test.YtlpncikiaojmiaaRcA
import Derived.Test.YtlpncikiaojmiaaRvM
import Derived.Test.YtlpncikiaojmiaaRecL
namespace Go.Proofs.Ytlpncikiaojmiaa
open Go.RowKit

theorem made_recs (n : Nat) : (madeCells (Value.agg #[.int .i64 0, .int .i64 0, .int .i64 0, .bool false, .int .i64 0, .bool false, .int .i64 0]).cells (n * 7)).toList = rc7 (List.replicate n Ch.Rec.zero) := by
  apply List.ext_getElem?
  intro j
  by_cases hj : j < n * 7
  · have hl : j / 7 < n := by omega
    have hm : j % 7 < 7 := Nat.mod_lt _ (by decide)
    have he : j = j / 7 * 7 + j % 7 := by omega
    have h0 := rc7_at (List.replicate n Ch.Rec.zero) (j / 7) (j % 7) (by simpa using hl) hm
    simp only [List.getD, List.getElem?_replicate, hl, if_true, Option.getD_some] at h0
    rw [← he] at h0
    rw [h0]
    have e : (madeCells (Value.agg #[.int .i64 0, .int .i64 0, .int .i64 0, .bool false, .int .i64 0, .bool false, .int .i64 0]).cells (n * 7)).toList[j]? = #[Value.int .i64 0, .int .i64 0, .int .i64 0, .bool false, .int .i64 0, .bool false, .int .i64 0][j % 7]? := by
      simp [madeCells, hj, Value.cells, hm]
    rw [e]
    simp [c7, Ch.Rec.zero]
  · have := rc7_len (List.replicate n Ch.Rec.zero)
    rw [List.getElem?_eq_none (by simp [madeCells]; omega), List.getElem?_eq_none (by rw [this]; simp; omega)]

/-- What the copy holds behind k rounds. -/
def copied7 (rs : List Ch.Rec) (n k : Nat) : List Value := rc7 (rs.take k ++ List.replicate (n - k) Ch.Rec.zero)

theorem copied7_end {rs : List Ch.Rec} {n : Nat} (h : n = rs.length) : copied7 rs n n = rc7 rs := by
  subst h; simp [copied7]

theorem copied7_set {rs : List Ch.Rec} {n k : Nat} (h : n = rs.length) (hk : k < n) : ((((((((copied7 rs n k).set (k * 7) (.int .i64 (rs.getD k Ch.Rec.zero).kd)).set (k * 7 + 1) (.int .i64 (rs.getD k Ch.Rec.zero).tx)).set (k * 7 + 2) (.int .i64 (rs.getD k Ch.Rec.zero).ky)).set (k * 7 + 3) (.bool (rs.getD k Ch.Rec.zero).hd)).set (k * 7 + 4) (.int .i64 (rs.getD k Ch.Rec.zero).ol)).set (k * 7 + 5) (.bool (rs.getD k Ch.Rec.zero).hs)).set (k * 7 + 6) (.int .i64 (rs.getD k Ch.Rec.zero).nw)) = copied7 rs n (k + 1) := by
  unfold copied7
  rw [rc7_set _ _ _ (by simp; omega), fill_set rs _ _ n k h hk]

end Go.Proofs.Ytlpncikiaojmiaa
