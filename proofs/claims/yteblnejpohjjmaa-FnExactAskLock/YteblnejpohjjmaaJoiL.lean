
/- JoinModes of the model, and the law FnExactJoinModes. -/
import Derived.Test.YteblnejpohjjmaaAskZ
namespace Go.Proofs.Yteblnejpohjjmaa
open Go.RowKit

theorem Ch.join_first {a b : Int} {k : Nat} (ha : Ch.isM a = true) (hb : Ch.isM b = true) (hk : k < 6) (hj : (k : Int) ≤ Ch.join a b) : Ch.both a b k = decide ((k : Int) = Ch.join a b) := by
  have : k = 0 ∨ k = 1 ∨ k = 2 ∨ k = 3 ∨ k = 4 ∨ k = 5 := by omega
  rcases Ch.mode_cases ha with rfl | rfl | rfl | rfl | rfl | rfl
  all_goals rcases Ch.mode_cases hb with rfl | rfl | rfl | rfl | rfl | rfl
  all_goals rcases this with rfl | rfl | rfl | rfl | rfl | rfl
  all_goals first | rfl | (exfalso; revert hj; decide)

set_option maxHeartbeats 2000000 in
theorem l5Join_any (a b : Int) (w : World) (ha : Ch.isM a = true) (hb : Ch.isM b = true) :
    Calls Try.prog 93 #[.int .i64 a, .int .i64 b] w fun e w' => e = .returned (.int .i64 (Ch.join a b)) ∧ w' = w := by
  have HF : Hid (∀ k : Nat, k < 6 → (k : Int) ≤ Ch.join a b → (Ch.tab Ch.covT k a && Ch.tab Ch.covT k b) = decide ((k : Int) = Ch.join a b)) := fun k hk hj => Ch.join_first ha hb hk hj
  obtain ⟨j0, j1⟩ := Ch.mode_bd (Ch.join_isM ha hb)
  generalize Ch.join a b = jj at *
  obtain ⟨j, rfl⟩ := Int.eq_ofNat_of_zero_le j0
  go_enter Try.func93, Try.ntmps93
  go_wp2_with fail
  go_loop [5] (fun i => ∃ k : Nat, k ≤ j ∧ i = .int .i64 k) (fun i => 6 - (intOf i).toNat)
  case atStart => exact ⟨0, Nat.zero_le _, rfl⟩
  case round =>
    obtain ⟨k, hk, rfl⟩ := hrel
    by_cases hlt : k < 5
    · have hki : (k : Int) < 5 := by omega
      have HA := fun W => l5Cov_any k a W (isM_nat (by omega)) ha
      have HB := fun W => l5Cov_any k b W (isM_nat (by omega)) hb
      have hV := HF.out k (by omega) (by omega)
      clear HF ha hb
      generalize Ch.tab Ch.covT k a = p at *
      generalize Ch.tab Ch.covT k b = q at *
      cases p
      · have hkj : k ≠ j := by intro h; subst h; simp at hV
        clear hV
        go_wp2_with (go_at_call 92; first | refine (HA _).mono ?_ | refine (HB _).mono ?_
                     rintro e w' ⟨rfl, rfl⟩)
        go_round
        case rel => exact ⟨k + 1, by omega, by go_num⟩
        case measure => simp [intOf]; omega
      · cases q
        · have hkj : k ≠ j := by intro h; subst h; simp at hV
          clear hV
          go_wp2_with fail
          refine (HA _).mono ?_
          rintro e w' ⟨rfl, rfl⟩
          go_wp2_with fail
          refine (HB _).mono ?_
          rintro e w' ⟨rfl, rfl⟩
          go_wp2_with fail
          go_round
          case rel => exact ⟨k + 1, by omega, by go_num⟩
          case measure => simp [intOf]; omega
        · obtain rfl : k = j := by have : (k : Int) = j := by simpa using hV
                                   omega
          clear hV
          go_wp2_with fail
          refine (HA _).mono ?_
          rintro e w' ⟨rfl, rfl⟩
          go_wp2_with fail
          refine (HB _).mono ?_
          rintro e w' ⟨rfl, rfl⟩
          go_wp2_with fail
          go_ret
          exact ⟨rfl, rfl⟩
    · obtain rfl : k = j := by omega
      obtain rfl : k = 5 := by omega
      go_wp2_with fail
      go_ret
      exact ⟨rfl, rfl⟩

set_option maxHeartbeats 1000000 in
theorem eqInt_same (c s : Int) (w : World) :
    Calls Try.prog 33 #[.agg #[.int .i64 c, .int .i64 s], .agg #[.int .i64 c, .int .i64 s]] w fun e w' => e = .returned (.bool true) ∧ Below w.heap.size w w' := by
  have hcc : (c != c) = false := by simp
  have hss : (s != s) = false := by simp
  go_enter Try.func33, Try.ntmps33
  go_wp2_with fail
  go_ret
  exact ⟨rfl, ((Below.refl _ _).alloc (Nat.le_refl _) _).alloc (by simp) _⟩

theorem joinR_is (a b : Int) : ∃ c s : Int, joinR a b = .agg #[.int .i64 c, .int .i64 s] := by
  unfold joinR
  cases (Ch.isM a && Ch.isM b)
  · exact ⟨_, _, rfl⟩
  · exact ⟨_, _, rfl⟩

end Go.Proofs.Yteblnejpohjjmaa
