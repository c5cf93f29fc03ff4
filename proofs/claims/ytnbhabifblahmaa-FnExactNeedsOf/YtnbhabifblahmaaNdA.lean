
/- Needs in memory (two numbers each): the laws' functions on them. -/
import Derived.Test.YtnbhabifblahmaaRowa
import Derived.Test.YtnbhabifblahmaaHd
namespace Go.Proofs.Ytnbhabifblahmaa
open Go.RowKit

theorem Try.info45 : (Try.prog.info? 45).map (fun i => (i.zero, i.size, i.bytes)) = some (some (.agg #[.int .i64 0, .int .i64 0]), 2, 16) := by kernel_rfl

theorem eqNeed_same (t m : Int) (w : World) :
    Calls Try.prog 26 #[.agg #[.int .i64 t, .int .i64 m], .agg #[.int .i64 t, .int .i64 m]] w fun e w' => e = .returned (.bool true) ∧ Below w.heap.size w w' := by
  have h0 : (t != t) = false := by simp
  have h1 : (m != m) = false := by simp
  go_enter Try.func26, Try.ntmps26
  go_wp2
  go_ret
  exact ⟨rfl, ((Below.refl _ _).alloc (Nat.le_refl _) _).alloc (by simp) _⟩

set_option maxHeartbeats 400000 in
theorem eqNeedS_same (a a' : Option Addr) (n cap cap' : Nat) (rs : List Ch.Hold) (w : World) (h : CellsAt w a (n * 2) (hcells rs)) (h' : CellsAt w a' (n * 2) (hcells rs)) (hn : n ≤ 1048576) :
    Calls Try.prog 20 #[.slice a n cap, .slice a' n cap'] w fun e w' => e = .returned (.bool true) ∧ Below w.heap.size w w' := by
  have HL := h.hlen
  have hnn : ((n : Int) != n) = false := by simp
  go_enter Try.func20, Try.ntmps20
  go_wp2
  go_loopw [5] (fun i wr => ∃ k : Nat, k ≤ n ∧ i = .int .i64 k ∧ Below w.heap.size w wr) (fun i _ => n - (intOf i).toNat)
  case atStart => exact ⟨0, Nat.zero_le _, rfl, Below.refl _ _⟩
  case round =>
    obtain ⟨k, hk, rfl, hB⟩ := hrel
    by_cases hlt : k < n
    · obtain ⟨b, off, rfl, hc0, hc1⟩ := (h.below hB).hold hlt
      obtain ⟨b', off', rfl, hd0, hd1⟩ := (h'.below hB).hold hlt
      generalize rs.getD k Ch.Hold.zero = r at *
      obtain ⟨rt, rm⟩ := r
      simp only at hc0 hc1 hd0 hd1
      go_wp2
      go_region_with (go_at_call 26; refine (eqNeed_same _ _ _).mono ?_; rintro e w1 ⟨rfl, b1⟩)
      all_goals
        have b1' : Below wr.heap.size wr _ := ⟨b1.os, b1.tape, b1.output, b1.size, b1.block⟩
        clear b1
        go_wp2
        go_roundw
        case rel => exact ⟨k + 1, by omega, by go_num, hB.trans (b1'.mono hB.size)⟩
        case measure => simp [intOf]; omega
    · obtain rfl : k = n := by omega
      go_wp2
      go_ret
      exact ⟨rfl, hB⟩

set_option maxHeartbeats 800000 in
theorem markNeeds_some (s : Int) (B g n cp : Nat) (rs : List Ch.Hold) (w : World) (hs0 : 0 < s) (hs1 : s ≤ 1099511627776) (hown : w.ownsRow B 45 2 (.slice (some ⟨g, 0, none⟩) n cp) n (hcells rs)) (hn : n ≤ 1048579) :
    Calls Try.prog 21 #[.slice (some ⟨g, 0, none⟩) n cp, .int .i64 s] w fun e w' => e = .returned (.int .i64 (s + 2 * n)) ∧ w'.ownsRow B 45 2 (.slice (some ⟨g, 0, none⟩) n cp) n (hcells (hmarks s n)) ∧ w.grownBy w' (some g) := by
  have HL := (owns_cells hown).hlen
  go_enter Try.func21, Try.ntmps21
  go_wp2
  go_loopw [1, 5] (fun q i wr => ∃ k : Nat, k ≤ n ∧ i = .int .i64 k ∧ q = .int .i64 (s + 2 * (k : Int)) ∧ wr.ownsRow B 45 2 (.slice (some ⟨g, 0, none⟩) n cp) n (hcells (hmarked s rs k)) ∧ w.grownBy wr (some g)) (fun _ i _ => n - (intOf i).toNat)
  case atStart => exact ⟨0, Nat.zero_le _, rfl, by simp, by simpa [hmarked, hmarks] using hown, ⟨rfl, rfl, rfl, Nat.le_refl _, fun _ _ _ => rfl⟩⟩
  case round =>
    obtain ⟨k, hk, rfl, rfl, own, gr⟩ := hrel
    by_cases hlt : k < n
    · have hf0 := own.frozenAt (k * 2)
      have hf1 := own.frozenAt (k * 2 + 1)
      obtain ⟨u0, hd0⟩ := owns_some own (j := k * 2) (by omega)
      obtain ⟨u1, hd1⟩ := owns_some own (j := k * 2 + 1) (by omega)
      have HS := hid (hmarked_set s rs k (by have := HL.out; omega))
      go_wp2
      go_roundw
      case rel =>
        refine ⟨k + 1, by omega, by go_num, by go_num, ?_, ?_⟩
        · rw [← HS.out]; exact owns_stored2 own _ _ _
        · exact gr_trans gr (gr_trans (own.stored _ _).2 ((own.stored _ _).1.stored _ _).2)
      case measure => simp [intOf]; omega
    · obtain rfl : k = n := by omega
      go_wp2
      go_ret
      refine ⟨rfl, ?_, gr⟩
      have := HL.out
      simpa [hmarked, this] using own

theorem markNeeds_nil (s : Int) (w : World) : Calls Try.prog 21 #[.slice none 0 0, .int .i64 s] w fun e w' => e = .returned (.int .i64 s) ∧ w' = w := by
  go_enter Try.func21, Try.ntmps21
  go_wp2
  go_loop [1, 5] (fun q i => i = .int .i64 0 ∧ q = .int .i64 s) (fun _ _ => 0)
  case atStart => exact ⟨rfl, rfl⟩
  case round =>
    obtain ⟨rfl, rfl⟩ := hrel
    go_wp2
    go_ret
    exact ⟨rfl, rfl⟩

theorem markNeeds_any (s : Int) (B n : Nat) (a : Option Addr) (cap : Nat) (rs : List Ch.Hold) (w : World) (hs0 : 0 < s) (hs1 : s ≤ 1099511627776) (hown : w.ownsRow B 45 2 (.slice a n cap) n (hcells rs)) (hn : n ≤ 1048579) :
    Calls Try.prog 21 #[.slice a n cap, .int .i64 s] w fun e w' => e = .returned (.int .i64 (s + 2 * n)) ∧ w'.ownsRow B 45 2 (.slice a n cap) n (hcells (hmarks s n)) ∧ w.grownBy w' (Value.slice a n cap).ownBlock := by
  rcases hown.2 with ⟨hv, h0⟩ | ⟨g, cp, cur, hv, _⟩
  · simp only [Value.slice.injEq] at hv
    obtain ⟨rfl, rfl, rfl⟩ := hv
    refine (markNeeds_nil s w).mono ?_
    rintro e w1 ⟨rfl, rfl⟩
    exact ⟨by simp, World.ownsRow_nil _ _ _ _, ⟨rfl, rfl, rfl, Nat.le_refl _, fun _ _ _ => rfl⟩⟩
  · simp only [Value.slice.injEq, true_and] at hv
    obtain ⟨rfl, rfl⟩ := hv
    exact markNeeds_some s B g n cap rs w hs0 hs1 hown hn

set_option maxHeartbeats 400000 in
theorem heldNeeds_any (s : Int) (a : Option Addr) (n cp : Nat) (w : World) (hs0 : 0 < s) (hs1 : s ≤ 1099511627776) (h : CellsAt w a (n * 2) (hcells (hmarks s n))) (hn : n ≤ 1048579) :
    Calls Try.prog 22 #[.slice a n cp, .int .i64 s] w fun e w' => e = .returned (.int .i64 (s + 2 * n)) ∧ w' = w := by
  go_enter Try.func22, Try.ntmps22
  go_wp2
  go_loop [1, 5] (fun q i => ∃ k : Nat, k ≤ n ∧ i = .int .i64 k ∧ q = .int .i64 (s + 2 * (k : Int))) (fun _ i => n - (intOf i).toNat)
  case atStart => exact ⟨0, Nat.zero_le _, rfl, by simp⟩
  case round =>
    obtain ⟨k, hk, rfl, rfl⟩ := hrel
    by_cases hlt : k < n
    · obtain ⟨b, off, rfl, hc0, hc1⟩ := h.hold hlt
      rw [hmarks_at s n k hlt] at hc0 hc1
      simp only [hmark] at hc0 hc1
      have hbl := lt_of_cell hc0
      go_wp2
      go_round
      case rel => exact ⟨k + 1, by omega, by go_num, by go_num⟩
      case measure => simp [intOf]; omega
    · obtain rfl : k = n := by omega
      go_wp2
      go_ret
      exact ⟨rfl, rfl⟩

set_option maxHeartbeats 400000 in
theorem eqNeedsResult_same (c : Int) (a a' : Option Addr) (n cap cap' : Nat) (rs : List Ch.Hold) (w : World) (h : CellsAt w a (n * 2) (hcells rs)) (h' : CellsAt w a' (n * 2) (hcells rs)) (hn : n ≤ 1048576) :
    Calls Try.prog 10 #[.agg #[.int .i64 c, .slice a n cap], .agg #[.int .i64 c, .slice a' n cap']] w fun e w' => e = .returned (.bool true) ∧ Below w.heap.size w w' := by
  have hcc : (c != c) = false := by simp
  have b0 : Below w.heap.size w ((w.alloc (.cells #[.int .i64 c, .slice a n cap] 30)).alloc (.cells #[.int .i64 c, .slice a' n cap'] 30)) := ((Below.refl _ _).alloc (Nat.le_refl _) _).alloc (by simp) _
  go_enter Try.func10, Try.ntmps10
  go_wp2_with fail
  refine (eqNeedS_same a a' n cap cap' rs _ (h.below b0) (h'.below b0) hn).mono ?_
  rintro e w1 ⟨rfl, b1⟩
  go_wp2
  go_ret
  exact ⟨rfl, b0.trans (b1.mono (by simp; omega))⟩

set_option maxHeartbeats 400000 in
theorem markNeedsResult_any (c : Int) (B : Nat) (a : Option Addr) (n cap : Nat) (rs : List Ch.Hold) (w : World) (hown : w.ownsRow B 45 2 (.slice a n cap) n (hcells rs)) (hn : n ≤ 1048579) :
    Calls Try.prog 11 #[.agg #[.int .i64 c, .slice a n cap], .int .i64 1] w fun e w' => e = .returned (.int .i64 (1 + 2 * n)) ∧ w'.ownsRow B 45 2 (.slice a n cap) n (hcells (hmarks 1 n)) ∧ w.grownBy w' (Value.slice a n cap).ownBlock := by
  go_enter Try.func11, Try.ntmps11
  go_wp2_with fail
  refine (markNeeds_any 1 B n a cap rs _ (by decide) (by decide) (hown.alloc _) hn).mono ?_
  rintro e w1 ⟨rfl, own1, gr1⟩
  go_wp2
  go_ret
  exact ⟨rfl, own1, gr_alloc gr1⟩

set_option maxHeartbeats 400000 in
theorem heldNeedsResult_any (c : Int) (a : Option Addr) (n cap : Nat) (w : World) (h : CellsAt w a (n * 2) (hcells (hmarks 1 n))) (hn : n ≤ 1048579) :
    Calls Try.prog 12 #[.agg #[.int .i64 c, .slice a n cap], .int .i64 1] w fun e w' => e = .returned (.int .i64 (1 + 2 * n)) ∧ Below w.heap.size w w' := by
  go_enter Try.func12, Try.ntmps12
  go_wp2_with fail
  refine (heldNeeds_any 1 a n cap _ (by decide) (by decide) (h.below ((Below.refl _ _).alloc (Nat.le_refl _) _)) hn).mono ?_
  rintro e w1 ⟨rfl, rfl⟩
  go_wp2
  go_ret
  exact ⟨rfl, (Below.refl _ _).alloc (Nat.le_refl _) _⟩
end Go.Proofs.Ytnbhabifblahmaa
