
/- Walks of the functions on one record: its copy, its fault (of the program and of the model). -/
import Derived.Test.YtoijjjckdggglaaGreatSmall
import Derived.Test.YtoijjjckdggglaaGreatRecM
namespace Go.Proofs.YtoijjjckdggglaaGreat
open Go.RowKit

theorem l2Txn_any (v : Int) (w : World) :
    Calls Tryz.prog 58 #[.int .i64 v] w fun e w' => e = .returned (.bool (Ch.inB v 1 999)) ∧ w' = w := by
  go_enter Tryz.func58, Tryz.ntmps58
  go_wp2_with (go_at_call 57; refine (in_any _ _ _ _).mono ?_; rintro e w' ⟨rfl, rfl⟩)
  go_ret
  exact ⟨rfl, rfl⟩

theorem isTxn_any (v : Int) (w : World) :
    Calls Tryz.prog 71 #[.int .i64 v] w fun e w' => e = .returned (.bool (Ch.inB v 1 999)) ∧ w' = w := by
  unfold Ch.inB
  by_cases h1 : 1 ≤ v
  all_goals by_cases h2 : v ≤ 999
  all_goals
    go_enter Tryz.func71, Tryz.ntmps71
    go_wp2
    go_ret
    exact ⟨by simp [h1, h2], rfl⟩

theorem l2Sets_any (v : Int) (w : World) :
    Calls Tryz.prog 40 #[.int .i64 v] w fun e w' => e = .returned (.bool (Ch.sets v)) ∧ w' = w := by
  unfold Ch.sets
  cases h1 : (v == 2)
  all_goals
    go_enter Tryz.func40, Tryz.ntmps40
    go_wp2
    go_ret
    exact ⟨by simp, rfl⟩

theorem tells_any (v : Int) (w : World) :
    Calls Tryz.prog 53 #[.int .i64 v] w fun e w' => e = .returned (.bool (Ch.sets v)) ∧ w' = w := by
  unfold Ch.sets
  cases h1 : (v == 2)
  all_goals
    go_enter Tryz.func53, Tryz.ntmps53
    go_wp2
    go_ret
    exact ⟨by simp, rfl⟩

set_option maxHeartbeats 1000000 in
theorem specRec_any (kd tx ky : Int) (hd : Bool) (ol : Int) (hs : Bool) (nw : Int) (w : World) :
    Calls Tryz.prog 41 #[.agg #[.int .i64 kd, .int .i64 tx, .int .i64 ky, .bool hd, .int .i64 ol, .bool hs, .int .i64 nw]] w fun e w' => e = .returned (.int .i64 (Ch.Rec.fault ⟨kd, tx, ky, hd, ol, hs, nw⟩)) ∧ Below w.heap.size w w' := by
  unfold Ch.Rec.fault
  dsimp only
  cases h1 : Ch.inB kd 1 5
  case' true => cases h2 : Ch.inB tx 1 999
  case' true.true => cases h3 : Ch.sets kd
  case' true.true.true => cases h4 : Ch.inB ky 0 99
  case' true.true.true.true => cases h5 : Ch.inB ol 0 9999
  case' true.true.true.true.true => cases h6 : Ch.inB nw 0 9999
  case' true.true.false => cases h4 : (ky != 0)
  case' true.true.false.false => cases hd
  case' true.true.false.false.false => cases hs
  case' true.true.false.false.false.false => cases h5 : (ol != 0)
  case' true.true.false.false.false.false.false => cases h6 : (nw != 0)
  case' true.true.true.true.true.true => (cases hd <;> cases hs <;> cases h7 : (ol != 0) <;> cases h8 : (nw != 0))
  all_goals
    go_enter Tryz.func41, Tryz.ntmps41
    go_wp2_with (first | (go_at_call 57; refine (in_any _ _ _ _).mono ?_; rintro e w' ⟨rfl, rfl⟩) | (go_at_call 58; refine (l2Txn_any _ _).mono ?_; rintro e w' ⟨rfl, rfl⟩) | (go_at_call 40; refine (l2Sets_any _ _).mono ?_; rintro e w' ⟨rfl, rfl⟩) | (go_at_call 59; refine (key_any _ _).mono ?_; rintro e w' ⟨rfl, rfl⟩) | (go_at_call 60; refine (value_any _ _).mono ?_; rintro e w' ⟨rfl, rfl⟩))
    go_ret
    exact ⟨by simp [*], (Below.refl _ _).alloc (Nat.le_refl _) _⟩
end Go.Proofs.YtoijjjckdggglaaGreat
