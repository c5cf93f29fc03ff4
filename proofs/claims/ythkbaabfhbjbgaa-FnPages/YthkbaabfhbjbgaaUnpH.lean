/- UnpackPage of the model as a whole; the law's comparisons and marks of a result of rows. -/
import Derived.Test.YthkbaabfhbjbgaaUnpF
import Derived.Test.YthkbaabfhbjbgaaResW
namespace Go.Proofs.Ythkbaabfhbjbgaa
open Go.RowKit

theorem specUnpack_any (a : Option Addr) (n cap : Nat) (zs : List Int) (w : World) (h : CellsAt w a n (bts zs)) (hb : IsB zs) (hn : n ≤ 1048576) (hcap : n ≤ cap) :
    Calls Try.prog 13 #[.slice a n cap] w fun e w' => ∃ a' m c', e = .returned (.agg #[.int .i64 (Ch.unp zs).1, .slice a' m c']) ∧ m ≤ 255 ∧ w'.ownsRow w.heap.size 36 3 (.slice a' m c') m (rcells (Ch.unp zs).2) ∧ Below w.heap.size w w' := by
  have hl := h.len.out
  obtain ⟨z0, z1⟩ := hb 0
  have done : ∀ c : Int, Ch.unp zs = (c, []) → (Calls Try.prog 13 #[.slice a n cap] w fun e w' => e = .returned (.agg #[.int .i64 c, .slice none 0 0]) ∧ Below w.heap.size w w') →
      Calls Try.prog 13 #[.slice a n cap] w fun e w' => ∃ a' m c', e = .returned (.agg #[.int .i64 (Ch.unp zs).1, .slice a' m c']) ∧ m ≤ 255 ∧ w'.ownsRow w.heap.size 36 3 (.slice a' m c') m (rcells (Ch.unp zs).2) ∧ Below w.heap.size w w' := by
    intro c hc hw
    rw [hc]
    refine hw.mono ?_
    rintro e w' ⟨rfl, b⟩
    exact ⟨_, _, _, rfl, by omega, World.ownsRow_nil _ _ _ _, b⟩
  cases hL : Ch.lenOk zs
  · refine done 5 (by simp [Ch.unp, hL]) ?_
    by_cases h0 : n < 3
    · exact specUnp_short a n cap w h0
    · obtain ⟨b, off, rfl, hc⟩ := h.at (show 0 < n by omega)
      refine specUnp_text b off n cap (zs.getD 0 0) _ (by omega) hn hc z0 z1 ?_
      simp only [Ch.lenOk, Bool.and_eq_false_iff, decide_eq_false_iff_not, beq_eq_false_iff_ne] at hL
      rw [bne_iff_ne]
      omega
  · obtain ⟨e1, e2, e3⟩ := Ch.lenOk_eq hL z1
    obtain ⟨q, rfl⟩ : ∃ q, n = q + 2 := ⟨n - 2, by omega⟩
    obtain ⟨b, off, rfl, _⟩ := h.at (show 0 < q + 2 by omega)
    have hq2 : zs.length - 2 = q := by omega
    have he : (((q : Int) + 2) != 3 + 4 * zs.getD 0 0) = false := by rw [bne_eq_false_iff_eq]; omega
    have hm : q = 1 + 4 * Ch.many zs := by omega
    cases hS : Ch.sumOk zs
    · refine done 6 (by simp [Ch.unp, hL, hS]) (specUnp_sum b off q cap zs _ h hb (by omega) (by omega) hcap he ?_)
      simp only [Ch.sumOk, hq2, beq_eq_false_iff_ne] at hS
      rw [bne_iff_ne]; exact hS
    · have hs : ((zs.getD q 0 * 256 + zs.getD (q + 1) 0) != Ch.sumB (zs.take q)) = false := by
        simp only [Ch.sumOk, hq2, beq_iff_eq] at hS
        rw [bne_eq_false_iff_eq]; exact hS
      have hY : Ch.rowPart zs = (zs.drop 1).take (q - 1) := by unfold Ch.rowPart; rw [hq2]
      refine specUnp_rows b off q cap zs w h hb (by omega) hcap he hs _ hm e2 (Ch.unp zs) ?_ ?_
      · intro j hj hbad
        rw [← hY] at hbad
        have hG : Ch.goodB (Ch.rowPart zs) (Ch.many zs) = false := by
          cases hG : Ch.goodB (Ch.rowPart zs) (Ch.many zs)
          · rfl
          · have := (Ch.goodB_iff _ _).1 hG j hj; omega
        simp [Ch.unp, hL, hS, hG]
      · intro hg
        rw [← hY] at hg
        have hG := (Ch.goodB_iff _ _).2 hg
        rw [← hY]
        simp [Ch.unp, hL, hS, hG]

set_option maxHeartbeats 400000 in
theorem eqRowsResult_same (c : Int) (a a' : Option Addr) (n cap cap' : Nat) (rs : List Ch.Row) (w : World) (h : CellsAt w a (n * 3) (rcells rs)) (h' : CellsAt w a' (n * 3) (rcells rs)) (hn : n ≤ 1099511627776) :
    Calls Try.prog 32 #[.agg #[.int .i64 c, .slice a n cap], .agg #[.int .i64 c, .slice a' n cap']] w fun e w' => e = .returned (.bool true) ∧ Below w.heap.size w w' := by
  have hcc : (c != c) = false := by simp
  have b0 : Below w.heap.size w ((w.alloc (.cells #[.int .i64 c, .slice a n cap] 27)).alloc (.cells #[.int .i64 c, .slice a' n cap'] 27)) := ((Below.refl _ _).alloc (Nat.le_refl _) _).alloc (by simp) _
  go_enter Try.func32, Try.ntmps32
  go_wp2_with fail
  refine (eqRowS_same a a' n cap cap' rs _ (h.below b0) (h'.below b0) hn).mono ?_
  rintro e w1 ⟨rfl, b1⟩
  go_wp2
  go_ret
  exact ⟨rfl, b0.trans (b1.mono (by simp; omega))⟩

theorem markRowS_nil (w : World) : Calls Try.prog 28 #[.slice none 0 0, .int .i64 1] w fun e w' => e = .returned (.int .i64 1) ∧ w' = w := by
  go_enter Try.func28, Try.ntmps28
  go_wp2
  go_loop [1, 5] (fun q i => i = .int .i64 0 ∧ q = .int .i64 1) (fun _ _ => 0)
  case atStart => exact ⟨rfl, rfl⟩
  case round =>
    obtain ⟨rfl, rfl⟩ := hrel
    go_wp2
    go_ret
    exact ⟨rfl, rfl⟩

set_option maxHeartbeats 400000 in
theorem markRowsResult_any (c : Int) (B : Nat) (a : Option Addr) (n cap : Nat) (rs : List Ch.Row) (w : World) (hown : w.ownsRow B 36 3 (.slice a n cap) n (rcells rs)) (hn : n ≤ 1048579) :
    Calls Try.prog 35 #[.agg #[.int .i64 c, .slice a n cap], .int .i64 1] w fun e w' => e = .returned (.int .i64 (1 + 3 * n)) ∧ w'.ownsRow B 36 3 (.slice a n cap) n (rcells (rmarks n)) ∧ w.grownBy w' (Value.slice a n cap).ownBlock := by
  rcases hown.2 with ⟨hv, h0⟩ | ⟨g, cp, cur, hv, _⟩
  · simp only [Value.slice.injEq] at hv
    obtain ⟨rfl, rfl, rfl⟩ := hv
    go_enter Try.func35, Try.ntmps35
    go_wp2_with fail
    refine (markRowS_nil _).mono ?_
    rintro e w1 ⟨rfl, rfl⟩
    go_wp2
    go_ret
    exact ⟨rfl, World.ownsRow_nil _ _ _ _, gr_alloc ⟨rfl, rfl, rfl, Nat.le_refl _, fun _ _ _ => rfl⟩⟩
  · simp only [Value.slice.injEq, true_and] at hv
    obtain ⟨rfl, rfl⟩ := hv
    go_enter Try.func35, Try.ntmps35
    go_wp2_with fail
    refine (markRowS_any B g n cap rs _ (hown.alloc _) hn).mono ?_
    rintro e w1 ⟨rfl, own1, gr1⟩
    go_wp2
    go_ret
    exact ⟨rfl, own1, gr_alloc gr1⟩

theorem rmarks_cells {w : World} {a : Option Addr} {n : Nat} (h : CellsAt w a (n * 3) (rcells (rmarks n))) {k : Nat} (hk : k < n) :
    ∃ b off, a = some ⟨b, off, none⟩ ∧ w.cell? ⟨b, off + k * 3, none⟩ = some (.int .i64 (1 + 3 * (k : Int))) ∧ w.cell? ⟨b, off + k * 3 + 1, none⟩ = some (.int .i64 (1 + 3 * (k : Int) + 1)) ∧ w.cell? ⟨b, off + k * 3 + 2, none⟩ = some (.bool ((1 + 3 * (k : Int) + 1 + 1) % 3 == 0)) := by
  obtain ⟨b, off, ha, h0, h1, h2⟩ := h.row hk
  rw [rmarks_at n k hk] at h0 h1 h2
  exact ⟨b, off, ha, h0, h1, h2⟩

set_option maxHeartbeats 400000 in
theorem heldRowS_any (a : Option Addr) (n cp : Nat) (w : World) (h : CellsAt w a (n * 3) (rcells (rmarks n))) (hn : n ≤ 1048579) :
    Calls Try.prog 55 #[.slice a n cp, .int .i64 1] w fun e w' => e = .returned (.int .i64 (1 + 3 * n)) ∧ w' = w := by
  go_enter Try.func55, Try.ntmps55
  go_wp2
  go_loop [1, 5] (fun q i => ∃ k : Nat, k ≤ n ∧ i = .int .i64 k ∧ q = .int .i64 (1 + 3 * (k : Int))) (fun _ i => n - (intOf i).toNat)
  case atStart => exact ⟨0, Nat.zero_le _, rfl, rfl⟩
  case round =>
    obtain ⟨k, hk, rfl, rfl⟩ := hrel
    by_cases hlt : k < n
    · obtain ⟨b, off, rfl, hc0, hc1, hc2⟩ := rmarks_cells h hlt
      go_wp2
      go_round
      case rel => exact ⟨k + 1, by omega, by go_num, by go_num⟩
      case measure => simp [intOf]; omega
    · obtain rfl : k = n := by omega
      go_wp2
      go_ret
      exact ⟨rfl, rfl⟩

set_option maxHeartbeats 400000 in
theorem heldRowsResult_any (c : Int) (a : Option Addr) (n cap : Nat) (w : World) (h : CellsAt w a (n * 3) (rcells (rmarks n))) (hn : n ≤ 1048579) :
    Calls Try.prog 36 #[.agg #[.int .i64 c, .slice a n cap], .int .i64 1] w fun e w' => e = .returned (.int .i64 (1 + 3 * n)) ∧ Below w.heap.size w w' := by
  go_enter Try.func36, Try.ntmps36
  go_wp2_with fail
  refine (heldRowS_any a n cap _ (h.below ((Below.refl _ _).alloc (Nat.le_refl _) _)) hn).mono ?_
  rintro e w1 ⟨rfl, rfl⟩
  go_wp2
  go_ret
  exact ⟨rfl, (Below.refl _ _).alloc (Nat.le_refl _) _⟩
end Go.Proofs.Ythkbaabfhbjbgaa
