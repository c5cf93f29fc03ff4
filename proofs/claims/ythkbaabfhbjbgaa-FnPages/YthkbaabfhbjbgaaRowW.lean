/- Walks of the functions on one row: toRow, RowFault of the program and of the model. -/
import Derived.Test.YthkbaabfhbjbgaaProg
import Derived.Test.YthkbaabfhbjbgaaMath
import Derived.Test.YthkbaabfhbjbgaaBase
namespace Go.Proofs.Ythkbaabfhbjbgaa
open Go.RowKit

theorem in_any (v lo hi : Int) (w : World) :
    Calls Try.prog 64 #[.int .i64 v, .int .i64 lo, .int .i64 hi] w fun e w' => e = .returned (.bool (Ch.inB v lo hi)) ∧ w' = w := by
  unfold Ch.inB
  by_cases h1 : lo ≤ v
  all_goals by_cases h2 : v ≤ hi
  all_goals
    go_enter Try.func64, Try.ntmps64
    go_wp2
    go_ret
    exact ⟨by simp [h1, h2], rfl⟩

theorem key_any (v : Int) (w : World) :
    Calls Try.prog 51 #[.int .i64 v] w fun e w' => e = .returned (.bool (Ch.inB v 0 99)) ∧ w' = w := by
  go_enter Try.func51, Try.ntmps51
  go_wp2_with (go_at_call 64; refine (in_any _ _ _ _).mono ?_; rintro e w' ⟨rfl, rfl⟩)
  go_ret
  exact ⟨rfl, rfl⟩

theorem value_any (v : Int) (w : World) :
    Calls Try.prog 52 #[.int .i64 v] w fun e w' => e = .returned (.bool (Ch.inB v 0 9999)) ∧ w' = w := by
  go_enter Try.func52, Try.ntmps52
  go_wp2_with (go_at_call 64; refine (in_any _ _ _ _).mono ?_; rintro e w' ⟨rfl, rfl⟩)
  go_ret
  exact ⟨rfl, rfl⟩

theorem isKey_any (v : Int) (w : World) :
    Calls Try.prog 49 #[.int .i64 v] w fun e w' => e = .returned (.bool (Ch.inB v 0 99)) ∧ w' = w := by
  unfold Ch.inB
  by_cases h1 : 0 ≤ v
  all_goals by_cases h2 : v ≤ 99
  all_goals
    go_enter Try.func49, Try.ntmps49
    go_wp2
    go_ret
    exact ⟨by simp [h1, h2], rfl⟩

theorem isValue_any (v : Int) (w : World) :
    Calls Try.prog 50 #[.int .i64 v] w fun e w' => e = .returned (.bool (Ch.inB v 0 9999)) ∧ w' = w := by
  unfold Ch.inB
  by_cases h1 : 0 ≤ v
  all_goals by_cases h2 : v ≤ 9999
  all_goals
    go_enter Try.func50, Try.ntmps50
    go_wp2
    go_ret
    exact ⟨by simp [h1, h2], rfl⟩

theorem toRow_any (k v : Int) (g : Bool) (w : World) :
    Calls Try.prog 22 #[.agg #[.int .i64 k, .int .i64 v, .bool g]] w fun e w' => e = .returned (.agg #[.int .i64 k, .int .i64 v, .bool g]) ∧ Below w.heap.size w w' := by
  go_enter Try.func22, Try.ntmps22
  go_wp2
  exact bodyPost_ret (v := .agg #[.int .i64 k, .int .i64 v, .bool g]) (by simp [results, Try.results22, go_sem]) rfl
    ⟨rfl, (((Below.refl _ _).alloc (Nat.le_refl _) _).alloc (by simp) _).alloc (by simp; omega) _⟩

set_option maxHeartbeats 400000 in
theorem specRow_any (k v : Int) (g : Bool) (w : World) :
    Calls Try.prog 21 #[.agg #[.int .i64 k, .int .i64 v, .bool g]] w fun e w' => e = .returned (.int .i64 (Ch.rowFault k v g)) ∧ Below w.heap.size w w' := by
  unfold Ch.rowFault
  cases hk : Ch.inB k 0 99
  all_goals cases hv : Ch.inB v 0 9999
  all_goals cases g
  all_goals cases h0 : (v != 0)
  all_goals
    go_enter Try.func21, Try.ntmps21
    go_wp2_with (first | (go_at_call 51; refine (key_any _ _).mono ?_; rintro e w' ⟨rfl, rfl⟩) | (go_at_call 52; refine (value_any _ _).mono ?_; rintro e w' ⟨rfl, rfl⟩))
    go_ret
    exact ⟨by simp, (Below.refl _ _).alloc (Nat.le_refl _) _⟩

set_option maxHeartbeats 400000 in
theorem implRow_any (k v : Int) (g : Bool) (w : World) :
    Calls Try.prog 17 #[.agg #[.int .i64 k, .int .i64 v, .bool g]] w fun e w' => e = .returned (.int .i64 (Ch.rowFault k v g)) ∧ Below w.heap.size w w' := by
  unfold Ch.rowFault
  cases hk : Ch.inB k 0 99
  all_goals cases hv : Ch.inB v 0 9999
  all_goals cases g
  all_goals cases h0 : (v != 0)
  all_goals
    go_enter Try.func17, Try.ntmps17
    go_wp2_with (first | (go_at_call 49; refine (isKey_any _ _).mono ?_; rintro e w' ⟨rfl, rfl⟩) | (go_at_call 50; refine (isValue_any _ _).mono ?_; rintro e w' ⟨rfl, rfl⟩))
    go_ret
    exact ⟨by simp, (Below.refl _ _).alloc (Nat.le_refl _) _⟩

set_option maxHeartbeats 400000 in
theorem lawRow_any (k v : Int) (g : Bool) (w : World) :
    Calls Try.prog 4 #[.agg #[.int .i64 k, .int .i64 v, .bool g]] w fun e w' => e = .returned (.bool true) ∧ Below w.heap.size w w' := by
  go_enter Try.func4, Try.ntmps4
  go_wp2_with fail
  refine (toRow_any _ _ _ _).mono ?_
  rintro e w1 ⟨rfl, b1⟩
  go_wp2_with fail
  refine (specRow_any _ _ _ _).mono ?_
  rintro e w2 ⟨rfl, b2⟩
  have b2' := b1.trans (b2.mono b1.size)
  clear b1 b2
  obtain ⟨c2, f2⟩ := bcell b2'
  go_wp2_with fail
  refine (toRow_any _ _ _ _).mono ?_
  rintro e w3 ⟨rfl, b3⟩
  go_wp2_with fail
  refine (implRow_any _ _ _ _).mono ?_
  rintro e w4 ⟨rfl, b4⟩
  have b3' := b2'.trans (b3.mono b2'.size)
  have b4' := b3'.trans (b4.mono b3'.size)
  go_wp2
  go_ret
  exact ⟨rfl, ((Below.refl _ _).alloc (Nat.le_refl _) _).trans (b4'.mono (by simp))⟩
end Go.Proofs.Ythkbaabfhbjbgaa
