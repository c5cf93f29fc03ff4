
/- Walks of the laws' functions on leaves: sizes, copies, comparisons. -/
import Derived.Test.YtlpncikiaojmiaaLvB
namespace Go.Proofs.Ytlpncikiaojmiaa
open Go.RowKit

/-- What leaves take of the size that is left. -/
def Ch.lvSize (ls : List (List Ch.Row)) : Nat := ls.length + (ls.map List.length).sum
/-- What is left; -1: they are too big. -/
def Ch.lvLeft (ls : List (List Ch.Row)) : Int := if Ch.lvSize ls ≤ 1048576 then 1048576 - (Ch.lvSize ls : Int) else -1
theorem Ch.lvLeft_big {ls : List (List Ch.Row)} (h : 1048576 < Ch.lvSize ls) : -1 = Ch.lvLeft ls := by
  rw [Ch.lvLeft, if_neg (by omega)]

theorem Ch.lv_take (ls : List (List Ch.Row)) (k : Nat) (h : k < ls.length) : ((ls.take (k + 1)).map List.length).sum = ((ls.take k).map List.length).sum + (ls.getD k []).length := by
  rw [Ch.take_snoc ls [] k h]; simp
theorem Ch.lv_le (ls : List (List Ch.Row)) (k : Nat) : ((ls.take k).map List.length).sum ≤ (ls.map List.length).sum := by
  induction ls generalizing k with
  | nil => simp
  | cons l ls ih =>
    cases k with
    | zero => simp
    | succ k => have := ih k; simp only [List.take_succ_cons, List.map_cons, List.sum_cons]; omega
theorem Ch.lv_leaf {ls : List (List Ch.Row)} {N : Nat} (h : Ch.lvSize ls ≤ N) (i : Nat) : (ls.getD i []).length ≤ N := by
  by_cases hi : i < ls.length
  · have h1 := Ch.lv_take ls i hi
    have h2 := Ch.lv_le ls (i + 1)
    unfold Ch.lvSize at h
    omega
  · simp [List.getD, List.getElem?_eq_none (show ls.length ≤ i by omega)]

theorem toRowS_at (H : Nat) (a : Option Addr) (n cap : Nat) (rs : List Ch.Row) (w : World) (hH : w.heap.size = H) (h : CellsAt w a (n * 3) (rcells rs)) (hn : n ≤ 1048576) :
    Calls Try.prog 10 #[.slice a n cap] w fun e w' => e = .returned (.slice (some ⟨H, 0, none⟩) n n) ∧
      w'.ownsRow H 64 3 (.slice (some ⟨H, 0, none⟩) n n) n (rcells rs) ∧ Below w.heap.size w w' := by
  subst hH
  exact toRowS_any a n cap rs w h hn

end Go.Proofs.Ytlpncikiaojmiaa
