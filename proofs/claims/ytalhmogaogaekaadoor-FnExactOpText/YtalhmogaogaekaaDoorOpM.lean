
/- Plain operations: what is wrong with one. -/
import Derived.Test.YtalhmogaogaekaaDoorMath
namespace Go.Proofs.YtalhmogaogaekaaDoor

/-- What is wrong with an operation. -/
def Ch.opFault (k a b v : Int) : Int :=
  if k = 1 ∨ k = 3 ∨ k = 8 then (if Ch.inB a 0 99 = false then 3 else if b = 0 ∧ v = 0 then 0 else 1)
  else if k = 2 then (if Ch.inB a 0 99 = false then 3 else if Ch.inB v 0 9999 = false then 3 else if b = 0 then 0 else 1)
  else if k = 4 then (if Ch.inB a 0 99 = false then 3 else if Ch.inB b 0 99 = false then 3 else if v = 0 then 0 else 1)
  else if k = 5 then (if Ch.inB v 0 9999 = false then 3 else if a = 0 ∧ b = 0 then 0 else 1)
  else if k = 6 ∨ k = 7 ∨ k = 9 ∨ k = 10 then (if a = 0 ∧ b = 0 ∧ v = 0 then 0 else 1)
  else 1

theorem Ch.op_cases (k : Int) : k = 1 ∨ k = 2 ∨ k = 3 ∨ k = 4 ∨ k = 5 ∨ k = 6 ∨ k = 7 ∨ k = 8 ∨ k = 9 ∨ k = 10 ∨ Ch.inB k 1 10 = false := by
  unfold Ch.inB
  simp only [Bool.and_eq_false_iff, decide_eq_false_iff_not]
  omega
end Go.Proofs.YtalhmogaogaekaaDoor
