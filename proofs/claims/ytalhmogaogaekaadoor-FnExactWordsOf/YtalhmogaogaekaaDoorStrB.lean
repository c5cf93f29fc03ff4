/- Lists of strings: marks that are held, results with words. -/
import Derived.Test.YtalhmogaogaekaaDoorStrA
namespace Go.Proofs.YtalhmogaogaekaaDoor
open Go.RowKit

set_option maxHeartbeats 2000000 in
theorem heldStrs_any (s : Nat) (a : Option Addr) (n cp : Nat) (w : World) (hs0 : 0 < s) (hs1 : s ≤ 4194304) (h : CellsAt w a (n * 1) (scells (smarks s n))) (hn : n ≤ 4194304) :
    Calls Tryd.prog 29 #[.slice a n cp, .int .i64 s] w fun e w' => e = .returned (.int .i64 (s + n)) ∧ Below w.heap.size w w' := by
  go_enter Tryd.func29, Tryd.ntmps29
  go_wp2
  go_loopw [1, 5] (fun q i wr => ∃ k : Nat, k ≤ n ∧ i = .int .i64 k ∧ q = .int .i64 (s + (k : Int)) ∧ Below w.heap.size w wr) (fun _ i _ => n - (intOf i).toNat)
  case atStart => exact ⟨0, Nat.zero_le _, rfl, by simp, Below.refl _ _⟩
  case round =>
    obtain ⟨k, hk, rfl, rfl, hB⟩ := hrel
    by_cases hlt : k < n
    · obtain ⟨b, off, rfl, hc0⟩ := (h.below hB).str hlt
      rw [smarks_at s n k hlt] at hc0
      have hbl := lt_of_cell hc0
      have MT := fun W => markText_any (s + k) W (by omega) (by omega)
      generalize mtext (s + k) = T at *
      rw [show (((s + k : Nat)) : Int) = (s : Int) + (k : Int) by omega] at MT
      go_wp2
      refine wp_region_noPanic ?_
      refine wp_region_held_drew (S := fun W' => W'.cell? ⟨b, off + k, none⟩ = some (.string T) ∧ b < W'.heap.size ∧ Below w.heap.size w W') (by kernel_rfl) (⟨by simpa using hc0, hbl, hB.trans ⟨rfl, rfl, rfl, Nat.le_refl _, fun _ _ => rfl⟩⟩) (fun hH => ?_)
      refine hTake (i := 0) (v := ?_) rfl (by kernel_rfl) (by kernel_rfl) (by kernel_rfl) (by rfl) ?_ hH ?_
      rotate_left
      · intro W hW; (try dsimp only at hW); go_simp <;> with_reducible rfl
      simp only [Act.put, List.setIfInBounds_toArray, List.set_cons_zero, List.set_cons_succ]
      refine hTake (i := 1) (v := ?_) rfl (by kernel_rfl) (by kernel_rfl) (by kernel_rfl) (by rfl) ?_ hH ?_
      rotate_left
      · intro W hW; (try dsimp only at hW); go_simp <;> with_reducible rfl
      simp only [Act.put, List.setIfInBounds_toArray, List.set_cons_zero, List.set_cons_succ]
      refine hTake (i := 2) (v := ?_) rfl (by kernel_rfl) (by kernel_rfl) (by kernel_rfl) (by rfl) ?_ hH ?_
      rotate_left
      · intro W hW; (try dsimp only at hW); go_simp <;> with_reducible rfl
      simp only [Act.put, List.setIfInBounds_toArray, List.set_cons_zero, List.set_cons_succ]
      refine hTake (i := 3) (v := ?_) rfl (by kernel_rfl) (by kernel_rfl) (by kernel_rfl) (by rfl) ?_ hH ?_
      rotate_left
      · intro W hW; (try dsimp only at hW); go_simp <;> with_reducible rfl
      simp only [Act.put, List.setIfInBounds_toArray, List.set_cons_zero, List.set_cons_succ]
      refine hTake (i := 4) (v := ?_) rfl (by kernel_rfl) (by kernel_rfl) (by kernel_rfl) (by rfl) ?_ hH ?_
      rotate_left
      · intro W hW; (try dsimp only at hW); go_simp <;> with_reducible rfl
      simp only [Act.put, List.setIfInBounds_toArray, List.set_cons_zero, List.set_cons_succ]
      refine wpAnyH_ready (rs := [5]) (by kernel_rfl) (by simp) ?_
      refine AllReadyH.cons rfl (fun K hK => ?_) AllReadyH.nil
      go_simp
      refine (MT _).mono ?_
      rintro e w2 ⟨rfl, b2⟩
      go_wp2_with fail
      refine hK.out _ _ ?_ (fun hH => ?_)
      · exact ⟨keep_cell b2 hH.1, Nat.lt_of_lt_of_le hH.2.1 b2.size, hH.2.2.trans (b2.mono hH.2.2.size)⟩
      clear hK K
      refine hTake (i := 6) (v := ?_) rfl (by kernel_rfl) (by kernel_rfl) (by kernel_rfl) (by rfl) ?_ hH ?_
      rotate_left
      · intro W hW; (try dsimp only at hW); go_simp <;> with_reducible rfl
      simp only [Act.put, List.setIfInBounds_toArray, List.set_cons_zero, List.set_cons_succ]
      refine wpAnyH_done (by kernel_rfl) ?_ _
      refine NoPanic.normal ?_
      go_wp2
      go_roundw
      case rel => exact ⟨k + 1, by omega, by go_num, by go_num, hH.2.2⟩
      case measure => simp [intOf]; omega
    · obtain rfl : k = n := by omega
      go_wp2
      go_ret
      exact ⟨rfl, hB⟩

set_option maxHeartbeats 400000 in
theorem eqWords_same (c : Int) (a a' : Option Addr) (n cap cap' : Nat) (rs : List ByteArray) (w : World) (h : CellsAt w a (n * 1) (scells rs)) (h' : CellsAt w a' (n * 1) (scells rs)) (hn : n ≤ 4194304) :
    Calls Tryd.prog 11 #[.agg #[.int .i64 c, .slice a n cap], .agg #[.int .i64 c, .slice a' n cap']] w fun e w' => e = .returned (.bool true) ∧ Below w.heap.size w w' := by
  have hcc : (c != c) = false := by simp
  have b0 : Below w.heap.size w ((w.alloc (.cells #[.int .i64 c, .slice a n cap] 33)).alloc (.cells #[.int .i64 c, .slice a' n cap'] 33)) := ((Below.refl _ _).alloc (Nat.le_refl _) _).alloc (by simp) _
  go_enter Tryd.func11, Tryd.ntmps11
  go_wp2_with fail
  refine (eqStrs_same a a' n cap cap' rs _ (h.below b0) (h'.below b0) hn).mono ?_
  rintro e w1 ⟨rfl, b1⟩
  go_wp2
  go_ret
  exact ⟨rfl, b0.trans (b1.mono (by simp; omega))⟩

set_option maxHeartbeats 400000 in
theorem markWords_any (c : Int) (B : Nat) (a : Option Addr) (n cap : Nat) (rs : List ByteArray) (w : World) (hown : w.ownsRow B 9 1 (.slice a n cap) n (scells rs)) (hn : n ≤ 4194304) :
    Calls Tryd.prog 12 #[.agg #[.int .i64 c, .slice a n cap], .int .i64 1] w fun e w' => e = .returned (.int .i64 (1 + n)) ∧ w'.ownsRow B 9 1 (.slice a n cap) n (scells (smarks 1 n)) ∧ w.grownBy w' (Value.slice a n cap).ownBlock := by
  go_enter Tryd.func12, Tryd.ntmps12
  go_wp2_with fail
  refine (markStrs_any 1 B n a cap rs _ (by decide) (by decide) (hown.alloc _) hn).mono ?_
  rintro e w1 ⟨rfl, own1, gr1⟩
  go_wp2
  go_ret
  exact ⟨rfl, own1, gr_alloc gr1⟩

set_option maxHeartbeats 400000 in
theorem heldWords_any (c : Int) (a : Option Addr) (n cap : Nat) (w : World) (h : CellsAt w a (n * 1) (scells (smarks 1 n))) (hn : n ≤ 4194304) :
    Calls Tryd.prog 13 #[.agg #[.int .i64 c, .slice a n cap], .int .i64 1] w fun e w' => e = .returned (.int .i64 (1 + n)) ∧ Below w.heap.size w w' := by
  go_enter Tryd.func13, Tryd.ntmps13
  go_wp2_with fail
  refine (heldStrs_any 1 a n cap _ (by decide) (by decide) (h.below ((Below.refl _ _).alloc (Nat.le_refl _) _)) hn).mono ?_
  rintro e w1 ⟨rfl, b1⟩
  go_wp2
  go_ret
  exact ⟨rfl, below_box b1⟩
end Go.Proofs.YtalhmogaogaekaaDoor
