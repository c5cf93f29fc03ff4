
/- RecFault of the program, and the law FnExactRecFault. -/
import Derived.Test.YtoijjjckdggglaaGreatRecI
namespace Go.Proofs.YtoijjjckdggglaaGreat
open Go.RowKit

theorem Ch.fault_of_chg (r : Ch.Rec) (h1 : Ch.inB r.kd 1 5 = true) (h2 : Ch.inB r.tx 1 999 = true) (h3 : Ch.sets r.kd = true) : r.fault = Ch.chg r.ky r.hd r.ol r.hs r.nw := by
  unfold Ch.Rec.fault Ch.chg
  simp [h1, h2, h3]

set_option maxHeartbeats 1000000 in
theorem implRec_any (kd tx ky : Int) (hd : Bool) (ol : Int) (hs : Bool) (nw : Int) (w : World) :
    Calls Tryz.prog 50 #[.agg #[.int .i64 kd, .int .i64 tx, .int .i64 ky, .bool hd, .int .i64 ol, .bool hs, .int .i64 nw]] w fun e w' => e = .returned (.int .i64 (Ch.Rec.fault ⟨kd, tx, ky, hd, ol, hs, nw⟩)) ∧ Below w.heap.size w w' := by
  by_cases k1 : kd < 1
  · go_enter Tryz.func50, Tryz.ntmps50
    go_wp2_with fail
    go_ret
    exact ⟨by simp [Ch.Rec.fault, Ch.inB]; omega, (Below.refl _ _).alloc (Nat.le_refl _) _⟩
  by_cases k2 : 5 < kd
  · go_enter Tryz.func50, Tryz.ntmps50
    go_wp2_with fail
    go_ret
    exact ⟨by simp [Ch.Rec.fault, Ch.inB]; omega, (Below.refl _ _).alloc (Nat.le_refl _) _⟩
  have h1 : Hid (Ch.inB kd 1 5 = true) := by show _ = _; simp [Ch.inB]; omega
  cases h2 : Ch.inB tx 1 999
  · go_enter Tryz.func50, Tryz.ntmps50
    go_wp2_with (first | (go_at_call 71; refine (isTxn_any _ _).mono ?_; rintro e w' ⟨rfl, rfl⟩))
    go_ret
    exact ⟨by simp [Ch.Rec.fault, h1.out, h2], (Below.refl _ _).alloc (Nat.le_refl _) _⟩
  cases h3 : Ch.sets kd
  · have hne := fun w => neqRec kd tx ky hd ol hs nw kd tx 0 false 0 false 0 w
    simp only [BEq.rfl, Bool.true_and] at hne
    have HC : Hid (Ch.Rec.fault ⟨kd, tx, ky, hd, ol, hs, nw⟩ = if (ky == 0 && hd == false && ol == 0 && hs == false && nw == 0) then 0 else 1) := by
      show _ = _
      unfold Ch.Rec.fault
      simp only [h1.out, h2, h3]
      by_cases a1 : ky = 0 <;> by_cases a2 : ol = 0 <;> by_cases a3 : nw = 0 <;> cases hd <;> cases hs <;> simp [a1, a2, a3]
    cases hb : (ky == 0 && hd == false && ol == 0 && hs == false && nw == 0)
    all_goals
      simp only [hb, Bool.not_true, Bool.not_false] at hne
      rw [HC.out, hb]
      clear hb HC
      go_enter Tryz.func50, Tryz.ntmps50
      go_wp2_with (first | (go_at_call 71; refine (isTxn_any _ _).mono ?_; rintro e w' ⟨rfl, rfl⟩) | (go_at_call 53; refine (tells_any _ _).mono ?_; rintro e w' ⟨rfl, rfl⟩))
      go_ret
      exact ⟨rfl, (Below.refl _ _).alloc (Nat.le_refl _) _⟩
  · have HC : Hid (Ch.Rec.fault ⟨kd, tx, ky, hd, ol, hs, nw⟩ = Ch.chg ky hd ol hs nw) := Ch.fault_of_chg ⟨kd, tx, ky, hd, ol, hs, nw⟩ h1.out h2 h3
    rw [HC.out]
    clear HC
    go_enter Tryz.func50, Tryz.ntmps50
    go_wp2_with (first | (go_at_call 71; refine (isTxn_any _ _).mono ?_; rintro e w' ⟨rfl, rfl⟩) | (go_at_call 53; refine (tells_any _ _).mono ?_; rintro e w' ⟨rfl, rfl⟩))
    refine (change_any _ _ _ _ _ _ _ _).mono ?_
    rintro e w1 ⟨rfl, b1⟩
    go_wp2
    go_ret
    exact ⟨rfl, below_box b1⟩

end Go.Proofs.YtoijjjckdggglaaGreat
