
/- Walks of the fault of a record: the program's. -/
import Derived.Test.YtoijjjckdggglaaGreatRecW
namespace Go.Proofs.YtoijjjckdggglaaGreat
open Go.RowKit

/-- The code of a change. -/
def Ch.chg (ky : Int) (hd : Bool) (ol : Int) (hs : Bool) (nw : Int) : Int :=
  if !Ch.inB ky 0 99 || !Ch.inB ol 0 9999 || !Ch.inB nw 0 9999 then 3 else if !hd && ol != 0 || !hs && nw != 0 then 1 else 0

set_option maxHeartbeats 1000000 in
theorem change_any (kd tx ky : Int) (hd : Bool) (ol : Int) (hs : Bool) (nw : Int) (w : World) :
    Calls Tryz.prog 72 #[.agg #[.int .i64 kd, .int .i64 tx, .int .i64 ky, .bool hd, .int .i64 ol, .bool hs, .int .i64 nw]] w fun e w' => e = .returned (.int .i64 (Ch.chg ky hd ol hs nw)) ∧ Below w.heap.size w w' := by
  unfold Ch.chg
  cases h4 : Ch.inB ky 0 99
  case' true => cases h5 : Ch.inB ol 0 9999
  case' true.true => cases h6 : Ch.inB nw 0 9999
  case' true.true.true => (cases hd <;> cases hs <;> cases h7 : (ol != 0) <;> cases h8 : (nw != 0))
  all_goals
    go_enter Tryz.func72, Tryz.ntmps72
    go_wp2_with (first | (go_at_call 83; refine (isKey_any _ _).mono ?_; rintro e w' ⟨rfl, rfl⟩) | (go_at_call 84; refine (isValue_any _ _).mono ?_; rintro e w' ⟨rfl, rfl⟩))
    go_ret
    exact ⟨by simp, (Below.refl _ _).alloc (Nat.le_refl _) _⟩

/-- Two records held against each other. -/
theorem equalRec (kd tx ky : Int) (hd : Bool) (ol : Int) (hs : Bool) (nw kd' tx' ky' : Int) (hd' : Bool) (ol' : Int) (hs' : Bool) (nw' : Int) (w : World) :
    (Op.equalIn 10000 54 (.agg #[.int .i64 kd, .int .i64 tx, .int .i64 ky, .bool hd, .int .i64 ol, .bool hs, .int .i64 nw]) (.agg #[.int .i64 kd', .int .i64 tx', .int .i64 ky', .bool hd', .int .i64 ol', .bool hs', .int .i64 nw'])).run Tryz.prog w
      = .ok (kd == kd' && tx == tx' && ky == ky' && hd == hd' && ol == ol' && hs == hs' && nw == nw') w := by
  have hS : Tryz.prog.underlying 54 = some (.struct (Tryz.prog.fieldsOf 54)) := by kernel_rfl
  have hp : Tryz.prog.stoodInHeld 54 = false := by kernel_rfl
  have u2 := Tryz.underlying2
  have a2 := Tryz.isAgg2
  have z2 := Tryz.sizeOf2
  have u4 := Tryz.underlying4
  have a4 := Tryz.isAgg4
  have z4 := Tryz.sizeOf4
  rw [show (10000 : Nat) = 9999 + 1 from rfl, run_equalIn_agg w 9999 54 _ _ hS hp]
  simp only [Program.fieldsOf, Tryz.underlying54]
  go_simp
  cases hd <;> cases hd' <;> cases hs <;> cases hs' <;> by_cases h1 : kd = kd' <;> by_cases h2 : tx = tx' <;> by_cases h3 : ky = ky' <;> by_cases h4 : ol = ol' <;> by_cases h5 : nw = nw' <;> simp [h1, h2, h3, h4, h5]

theorem neqRec (kd tx ky : Int) (hd : Bool) (ol : Int) (hs : Bool) (nw kd' tx' ky' : Int) (hd' : Bool) (ol' : Int) (hs' : Bool) (nw' : Int) (w : World) :
    (binOp .neq 54 (.agg #[.int .i64 kd, .int .i64 tx, .int .i64 ky, .bool hd, .int .i64 ol, .bool hs, .int .i64 nw]) (.agg #[.int .i64 kd', .int .i64 tx', .int .i64 ky', .bool hd', .int .i64 ol', .bool hs', .int .i64 nw'])).run Tryz.prog w
      = .ok (.bool (!(kd == kd' && tx == tx' && ky == ky' && hd == hd' && ol == ol' && hs == hs' && nw == nw'))) w := by
  rw [run_neq_struct, equalRec]
  rfl
end Go.Proofs.YtoijjjckdggglaaGreat
