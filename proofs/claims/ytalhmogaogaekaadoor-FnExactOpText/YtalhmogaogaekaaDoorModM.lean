
/- Plain modes of locks: no Go in it. -/
import Derived.Test.YtalhmogaogaekaaDoorMath
namespace Go.Proofs.YtalhmogaogaekaaDoor.Ch
def isM (m : Int) : Bool := inB m 0 5
def fitT : List (List Bool) :=
  [[true, true, true, true, true, true], [true, true, true, true, true, false], [true, true, true, false, false, false],
   [true, true, false, true, false, false], [true, true, false, false, false, false], [true, false, false, false, false, false]]
def covT : List (List Bool) :=
  [[true, false, false, false, false, false], [true, true, false, false, false, false], [true, true, true, false, false, false],
   [true, true, false, true, false, false], [true, true, true, true, true, false], [true, true, true, true, true, true]]
def tab (t : List (List Bool)) (a b : Int) : Bool := (t.getD a.toNat []).getD b.toNat false
def fit (a b : Int) : Bool := tab fitT a b
def cov (a b : Int) : Bool := tab covT a b
def fits (a b : Int) : Bool := isM a && isM b && fit a b
def covers (a b : Int) : Bool := isM a && isM b && cov a b
def joinT : List (List Int) :=
  [[0, 1, 2, 3, 4, 5], [1, 1, 2, 3, 4, 5], [2, 2, 2, 4, 4, 5], [3, 3, 4, 3, 4, 5], [4, 4, 4, 4, 4, 5], [5, 5, 5, 5, 5, 5]]
def join (a b : Int) : Int := (joinT.getD a.toNat []).getD b.toNat 0
def textT : List (Array UInt8) := [#[110, 111, 110, 101], #[105, 115], #[105, 120], #[115], #[115, 105, 120], #[120]]
def text (m : Int) : Array UInt8 := textT.getD m.toNat #[]
theorem mode_cases {m : Int} (h : isM m = true) : m = 0 ∨ m = 1 ∨ m = 2 ∨ m = 3 ∨ m = 4 ∨ m = 5 := by
  simp [isM, inB] at h; omega
theorem mode_bd {m : Int} (h : isM m = true) : 0 ≤ m ∧ m ≤ 5 := by
  simp [isM, inB] at h; omega
end Go.Proofs.YtalhmogaogaekaaDoor.Ch
