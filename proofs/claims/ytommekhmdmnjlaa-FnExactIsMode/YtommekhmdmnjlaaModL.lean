/- The laws FnExactIsMode, FnExactFitModes, FnExactCoversMode. -/
import Derived.Test.YtommekhmdmnjlaaModS
namespace Go.Proofs.Ytommekhmdmnjlaa
open Go.RowKit

theorem lawIsMode_any (a : Int) (w : World) :
    Calls Try.prog 5 #[.int .i64 a] w fun e w' => e = .returned (.bool true) ∧ Below w.heap.size w w' := by
  have BI := fun w' => isMode_any a w'
  have BS := fun w' => specIsMode_any a w'
  cases h : Ch.isM a
  all_goals
    rw [h] at BI BS
    clear h
    go_enter Try.func5, Try.ntmps5
    go_wp2_with (first | (go_at_call 25; refine (BS _).mono ?_; rintro e w' ⟨rfl, rfl⟩) | (go_at_call 22; refine (BI _).mono ?_; rintro e w' ⟨rfl, rfl⟩))
    go_ret
    exact ⟨rfl, Below.refl _ _⟩

theorem lawFit_any (a b : Int) (w : World) :
    Calls Try.prog 6 #[.int .i64 a, .int .i64 b] w fun e w' => e = .returned (.bool true) ∧ Below w.heap.size w w' := by
  have BI := fun w' => implFit_any a b w'
  have BS := fun w' => specFit_any a b w'
  cases h : (Ch.isM a && Ch.isM b && Ch.tab Ch.fitT a b)
  all_goals
    rw [h] at BI BS
    clear h
    go_enter Try.func6, Try.ntmps6
    go_wp2_with (first | (go_at_call 21; refine (BS _).mono ?_; rintro e w' ⟨rfl, rfl⟩) | (go_at_call 20; refine (BI _).mono ?_; rintro e w1 ⟨rfl, b1⟩))
    go_ret
    exact ⟨rfl, b1⟩

theorem lawCov_any (a b : Int) (w : World) :
    Calls Try.prog 8 #[.int .i64 a, .int .i64 b] w fun e w' => e = .returned (.bool true) ∧ Below w.heap.size w w' := by
  have BI := fun w' => implCov_any a b w'
  have BS := fun w' => specCov_any a b w'
  cases h : (Ch.isM a && Ch.isM b && Ch.tab Ch.covT a b)
  all_goals
    rw [h] at BI BS
    clear h
    go_enter Try.func8, Try.ntmps8
    go_wp2_with (first | (go_at_call 28; refine (BS _).mono ?_; rintro e w' ⟨rfl, rfl⟩) | (go_at_call 24; refine (BI _).mono ?_; rintro e w1 ⟨rfl, b1⟩))
    go_ret
    exact ⟨rfl, b1⟩
end Go.Proofs.Ytommekhmdmnjlaa
