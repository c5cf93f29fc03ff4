/- Plain: what an operation touches. -/
import Derived.Test.YtlpncikiaojmiaaOpM
namespace Go.Proofs.Ytlpncikiaojmiaa

/-- What an operation touches, its form not asked. -/
def Ch.touch (k a b key : Int) : Bool := if k = 1 ∨ k = 2 ∨ k = 3 then a == key else if k = 4 then Ch.inB key a b else k == 5
/-- TouchesOf. -/
def Ch.touches (k a b v key : Int) : Bool := if Ch.opFault k a b v = 0 then (if Ch.inB key 0 99 = true then Ch.touch k a b key else false) else false

theorem Ch.touches_bad {k a b v key : Int} (h : Ch.opFault k a b v ≠ 0) : Ch.touches k a b v key = false := by unfold Ch.touches; rw [if_neg h]
theorem Ch.touches_key {k a b v key : Int} (h : Ch.inB key 0 99 = false) : Ch.touches k a b v key = false := by unfold Ch.touches; simp [h]
theorem Ch.touches_ok {k a b v key : Int} (h : Ch.opFault k a b v = 0) (h' : Ch.inB key 0 99 = true) : Ch.touches k a b v key = Ch.touch k a b key := by unfold Ch.touches; rw [if_pos h, if_pos h']
theorem Ch.op_kinds {k a b v : Int} (h : Ch.opFault k a b v = 0) : k = 1 ∨ k = 2 ∨ k = 3 ∨ k = 4 ∨ k = 5 ∨ k = 6 ∨ k = 7 ∨ k = 8 ∨ k = 9 ∨ k = 10 := by
  rcases Ch.op_cases k with h1 | h1 | h1 | h1 | h1 | h1 | h1 | h1 | h1 | h1 | h1
  all_goals first | (subst h1; decide) | skip
  exfalso
  unfold Ch.inB at h1
  simp only [Bool.and_eq_false_iff, decide_eq_false_iff_not] at h1
  unfold Ch.opFault at h
  repeat rw [if_neg (by omega)] at h
  simp at h
end Go.Proofs.Ytlpncikiaojmiaa
