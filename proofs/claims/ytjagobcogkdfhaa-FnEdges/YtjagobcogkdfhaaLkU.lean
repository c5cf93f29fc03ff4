
/- The program's faults of a lock: those that convert, the queue, the whole. -/
import Derived.Test.YtjagobcogkdfhaaLkV
namespace Go.Proofs.Ytjagobcogkdfhaa
open Go.RowKit Go.Maps

set_option maxHeartbeats 1000000 in
theorem convCount_any (r : Int) (ah : Option Addr) (nh ch : Nat) (aq : Option Addr) (nq cq : Nat) (hs qs : List Ch.Hold) (w : World) (h3 : CellsAt w ah (nh * 2) (hcells hs)) (h4 : CellsAt w aq (nq * 2) (hcells qs)) (hn : nh ≤ 1048576) (hq : nq ≤ 1048576) :
    Calls Try.prog 215 #[.agg #[.int .i64 r, .slice ah nh ch, .slice aq nq cq]] w fun e w' => e = .returned (.int .i64 (Ch.convH hs qs)) ∧ Below w.heap.size w w' := by
  have HQ := h4.hlen
  have HL := h3.hlen
  have bA : Below w.heap.size w (w.alloc (.cells #[.int .i64 r, .slice ah nh ch, .slice aq nq cq] 181)) := (Below.refl _ _).alloc (Nat.le_refl _) _
  have y1 : (w.alloc (.cells #[.int .i64 r, .slice ah nh ch, .slice aq nq cq] 181)).cell? ⟨w.heap.size, 1, none⟩ = some (.slice ah nh ch) := by simp [go_sem]
  have y2 : (w.alloc (.cells #[.int .i64 r, .slice ah nh ch, .slice aq nq cq] 181)).cell? ⟨w.heap.size, 2, none⟩ = some (.slice aq nq cq) := by simp [go_sem]
  have ll0 : w.heap.size < (w.alloc (.cells #[.int .i64 r, .slice ah nh ch, .slice aq nq cq] 181)).heap.size := by simp
  go_enter Try.func215, Try.ntmps215
  go_wp2
  go_loopw [3] (fun i wr => ∃ k : Nat, k ≤ nq ∧ i = .int .i64 k ∧ Hid (∀ j, j < k → Ch.hasH hs (qs.getD j Ch.Hold.zero).t = true) ∧ wr.cell? ⟨w.heap.size, 1, none⟩ = some (.slice ah nh ch) ∧ wr.cell? ⟨w.heap.size, 2, none⟩ = some (.slice aq nq cq) ∧ w.heap.size < wr.heap.size ∧ Below w.heap.size w wr) (fun i _ => nq - (intOf i).toNat)
  case atStart => exact ⟨0, Nat.zero_le _, rfl, (fun j hj => by omega), y1, y2, ll0, bA⟩
  case round =>
    clear y1 y2 ll0 bA
    obtain ⟨k, hk, rfl, HA, x1, x2, ll, hB⟩ := hrel
    by_cases hlt : k < nq
    · have hkl : k < qs.length := by have := HQ.out; omega
      have HS := hid (fun he => Ch.step_all (p := fun j => Ch.hasH hs (qs.getD j Ch.Hold.zero).t) HA.out he)
      have HE := hid (fun he => Ch.conv_is (hs := hs) (qs := qs) (k := k) (by have := HQ.out; omega) HA.out (fun _ => he))
      obtain ⟨qb, qo, rfl, q0, _⟩ := (h4.below hB).hold hlt
      have hqb := lt_of_cell q0
      generalize (qs.getD k Ch.Hold.zero).t = rt at *
      cases hh : Ch.hasH hs rt
      · go_wp2_with fail
        refine wp_region_noPanic ?_
        refine wp_region_held_drew (S := fun W' => W'.cell? ⟨w.heap.size, 1, none⟩ = some (.slice ah nh ch) ∧ W'.cell? ⟨w.heap.size, 2, none⟩ = some (.slice (some ⟨qb, qo, none⟩) nq cq) ∧ W'.cell? ⟨qb, qo + k * 2, none⟩ = some (.int .i64 rt) ∧ CellsAt W' ah (nh * 2) (hcells hs) ∧ w.heap.size < W'.heap.size ∧ Below w.heap.size w W') (by kernel_rfl) (⟨x1, x2, q0, h3.below hB.drew, ll, hB.drew⟩) (fun hH => ?_)
        refine hTake (i := 0) (v := ?_) rfl (by kernel_rfl) (by kernel_rfl) (by kernel_rfl) (by rfl) ?_ hH ?_
        rotate_left
        · intro W hW; (try dsimp only at hW); go_simp <;> with_reducible rfl
        simp only [Act.put, List.setIfInBounds_toArray, List.set_cons_zero, List.set_cons_succ]
        refine hTake (i := 1) (v := ?_) rfl (by kernel_rfl) (by kernel_rfl) (by kernel_rfl) (by rfl) ?_ hH ?_
        rotate_left
        · intro W hW; (try dsimp only at hW); go_simp <;> with_reducible rfl
        simp only [Act.put, List.setIfInBounds_toArray, List.set_cons_zero, List.set_cons_succ]
        refine hTake (i := 2) (v := ?_) rfl (by kernel_rfl) (by kernel_rfl) (by kernel_rfl) (by rfl) ?_ hH ?_
        rotate_left
        · intro W hW; (try dsimp only at hW); go_simp <;> with_reducible rfl
        simp only [Act.put, List.setIfInBounds_toArray, List.set_cons_zero, List.set_cons_succ]
        refine hTake (i := 3) (v := ?_) rfl (by kernel_rfl) (by kernel_rfl) (by kernel_rfl) (by rfl) ?_ hH ?_
        rotate_left
        · intro W hW; (try dsimp only at hW); go_simp <;> with_reducible rfl
        simp only [Act.put, List.setIfInBounds_toArray, List.set_cons_zero, List.set_cons_succ]
        refine hTake (i := 4) (v := ?_) rfl (by kernel_rfl) (by kernel_rfl) (by kernel_rfl) (by rfl) ?_ hH ?_
        rotate_left
        · intro W hW; (try dsimp only at hW); go_simp <;> with_reducible rfl
        simp only [Act.put, List.setIfInBounds_toArray, List.set_cons_zero, List.set_cons_succ]
        refine hTake (i := 5) (v := ?_) rfl (by kernel_rfl) (by kernel_rfl) (by kernel_rfl) (by rfl) ?_ hH ?_
        rotate_left
        · intro W hW; (try dsimp only at hW); go_simp <;> with_reducible rfl
        simp only [Act.put, List.setIfInBounds_toArray, List.set_cons_zero, List.set_cons_succ]
        refine hTake (i := 6) (v := ?_) rfl (by kernel_rfl) (by kernel_rfl) (by kernel_rfl) (by rfl) ?_ hH ?_
        rotate_left
        · intro W hW; (try dsimp only at hW); go_simp <;> with_reducible rfl
        simp only [Act.put, List.setIfInBounds_toArray, List.set_cons_zero, List.set_cons_succ]
        refine hTake (i := 7) (v := ?_) rfl (by kernel_rfl) (by kernel_rfl) (by kernel_rfl) (by rfl) ?_ hH ?_
        rotate_left
        · intro W hW; (try dsimp only at hW); go_simp <;> with_reducible rfl
        simp only [Act.put, List.setIfInBounds_toArray, List.set_cons_zero, List.set_cons_succ]
        refine hTake (i := 8) (v := ?_) rfl (by kernel_rfl) (by kernel_rfl) (by kernel_rfl) (by rfl) ?_ hH ?_
        rotate_left
        · intro W hW; (try dsimp only at hW); go_simp <;> with_reducible rfl
        simp only [Act.put, List.setIfInBounds_toArray, List.set_cons_zero, List.set_cons_succ]
        refine hTake (i := 9) (v := ?_) rfl (by kernel_rfl) (by kernel_rfl) (by kernel_rfl) (by rfl) ?_ hH ?_
        rotate_left
        · intro W hW; (try dsimp only at hW); go_simp <;> with_reducible rfl
        simp only [Act.put, List.setIfInBounds_toArray, List.set_cons_zero, List.set_cons_succ]
        refine hTake (i := 10) (v := ?_) rfl (by kernel_rfl) (by kernel_rfl) (by kernel_rfl) (by rfl) ?_ hH ?_
        rotate_left
        · intro W hW; (try dsimp only at hW); go_simp <;> with_reducible rfl
        simp only [Act.put, List.setIfInBounds_toArray, List.set_cons_zero, List.set_cons_succ]
        refine hTake (i := 11) (v := ?_) rfl (by kernel_rfl) (by kernel_rfl) (by kernel_rfl) (by rfl) ?_ hH ?_
        rotate_left
        · intro W hW; (try dsimp only at hW); go_simp <;> with_reducible rfl
        simp only [Act.put, List.setIfInBounds_toArray, List.set_cons_zero, List.set_cons_succ]
        refine hTake (i := 12) (v := ?_) rfl (by kernel_rfl) (by kernel_rfl) (by kernel_rfl) (by rfl) ?_ hH ?_
        rotate_left
        · intro W hW; (try dsimp only at hW); go_simp <;> with_reducible rfl
        simp only [Act.put, List.setIfInBounds_toArray, List.set_cons_zero, List.set_cons_succ]
        refine hTake (i := 13) (v := ?_) rfl (by kernel_rfl) (by kernel_rfl) (by kernel_rfl) (by rfl) ?_ hH ?_
        rotate_left
        · intro W hW; (try dsimp only at hW); go_simp <;> with_reducible rfl
        simp only [Act.put, List.setIfInBounds_toArray, List.set_cons_zero, List.set_cons_succ]
        refine hTake (i := 14) (v := ?_) rfl (by kernel_rfl) (by kernel_rfl) (by kernel_rfl) (by rfl) ?_ hH ?_
        rotate_left
        · intro W hW; (try dsimp only at hW); go_simp <;> with_reducible rfl
        simp only [Act.put, List.setIfInBounds_toArray, List.set_cons_zero, List.set_cons_succ]
        refine hTake (i := 15) (v := ?_) rfl (by kernel_rfl) (by kernel_rfl) (by kernel_rfl) (by rfl) ?_ hH ?_
        rotate_left
        · intro W hW; (try dsimp only at hW); go_simp <;> with_reducible rfl
        simp only [Act.put, List.setIfInBounds_toArray, List.set_cons_zero, List.set_cons_succ]
        refine wpAnyH_ready (rs := [16]) (by kernel_rfl) (by simp) ?_
        refine AllReadyH.cons rfl (fun K hK => ?_) AllReadyH.nil
        go_simp
        refine (has_any ah nh ch rt hs _ hH.2.2.2.1 hn).mono ?_
        rintro e w2 ⟨rfl, b2⟩
        rw [hh]
        go_wp2_with fail
        refine hK.out _ _ ?_ (fun hH => ?_)
        · exact ⟨keep_cell b2 hH.1, keep_cell b2 hH.2.1, keep_cell b2 hH.2.2.1, hH.2.2.2.1.below b2, Nat.lt_of_lt_of_le hH.2.2.2.2.1 b2.size, hH.2.2.2.2.2.trans (b2.mono hH.2.2.2.2.2.size)⟩
        clear hK K
        refine hTake (i := 17) (v := ?_) rfl (by kernel_rfl) (by kernel_rfl) (by kernel_rfl) (by rfl) ?_ hH ?_
        rotate_left
        · intro W hW; (try dsimp only at hW); go_simp <;> with_reducible rfl
        simp only [Act.put, List.setIfInBounds_toArray, List.set_cons_zero, List.set_cons_succ]
        refine wpAnyH_done (by kernel_rfl) ?_ _
        refine NoPanic.normal ?_
        go_wp2
        go_ret
        exact ⟨ret_int (by rw [HE.out hh]), hH.2.2.2.2.2⟩
      · go_wp2_with fail
        refine wp_region_noPanic ?_
        refine wp_region_held_drew (S := fun W' => W'.cell? ⟨w.heap.size, 1, none⟩ = some (.slice ah nh ch) ∧ W'.cell? ⟨w.heap.size, 2, none⟩ = some (.slice (some ⟨qb, qo, none⟩) nq cq) ∧ W'.cell? ⟨qb, qo + k * 2, none⟩ = some (.int .i64 rt) ∧ CellsAt W' ah (nh * 2) (hcells hs) ∧ w.heap.size < W'.heap.size ∧ Below w.heap.size w W') (by kernel_rfl) (⟨x1, x2, q0, h3.below hB.drew, ll, hB.drew⟩) (fun hH => ?_)
        refine hTake (i := 0) (v := ?_) rfl (by kernel_rfl) (by kernel_rfl) (by kernel_rfl) (by rfl) ?_ hH ?_
        rotate_left
        · intro W hW; (try dsimp only at hW); go_simp <;> with_reducible rfl
        simp only [Act.put, List.setIfInBounds_toArray, List.set_cons_zero, List.set_cons_succ]
        refine hTake (i := 1) (v := ?_) rfl (by kernel_rfl) (by kernel_rfl) (by kernel_rfl) (by rfl) ?_ hH ?_
        rotate_left
        · intro W hW; (try dsimp only at hW); go_simp <;> with_reducible rfl
        simp only [Act.put, List.setIfInBounds_toArray, List.set_cons_zero, List.set_cons_succ]
        refine hTake (i := 2) (v := ?_) rfl (by kernel_rfl) (by kernel_rfl) (by kernel_rfl) (by rfl) ?_ hH ?_
        rotate_left
        · intro W hW; (try dsimp only at hW); go_simp <;> with_reducible rfl
        simp only [Act.put, List.setIfInBounds_toArray, List.set_cons_zero, List.set_cons_succ]
        refine hTake (i := 3) (v := ?_) rfl (by kernel_rfl) (by kernel_rfl) (by kernel_rfl) (by rfl) ?_ hH ?_
        rotate_left
        · intro W hW; (try dsimp only at hW); go_simp <;> with_reducible rfl
        simp only [Act.put, List.setIfInBounds_toArray, List.set_cons_zero, List.set_cons_succ]
        refine hTake (i := 4) (v := ?_) rfl (by kernel_rfl) (by kernel_rfl) (by kernel_rfl) (by rfl) ?_ hH ?_
        rotate_left
        · intro W hW; (try dsimp only at hW); go_simp <;> with_reducible rfl
        simp only [Act.put, List.setIfInBounds_toArray, List.set_cons_zero, List.set_cons_succ]
        refine hTake (i := 5) (v := ?_) rfl (by kernel_rfl) (by kernel_rfl) (by kernel_rfl) (by rfl) ?_ hH ?_
        rotate_left
        · intro W hW; (try dsimp only at hW); go_simp <;> with_reducible rfl
        simp only [Act.put, List.setIfInBounds_toArray, List.set_cons_zero, List.set_cons_succ]
        refine hTake (i := 6) (v := ?_) rfl (by kernel_rfl) (by kernel_rfl) (by kernel_rfl) (by rfl) ?_ hH ?_
        rotate_left
        · intro W hW; (try dsimp only at hW); go_simp <;> with_reducible rfl
        simp only [Act.put, List.setIfInBounds_toArray, List.set_cons_zero, List.set_cons_succ]
        refine hTake (i := 7) (v := ?_) rfl (by kernel_rfl) (by kernel_rfl) (by kernel_rfl) (by rfl) ?_ hH ?_
        rotate_left
        · intro W hW; (try dsimp only at hW); go_simp <;> with_reducible rfl
        simp only [Act.put, List.setIfInBounds_toArray, List.set_cons_zero, List.set_cons_succ]
        refine hTake (i := 8) (v := ?_) rfl (by kernel_rfl) (by kernel_rfl) (by kernel_rfl) (by rfl) ?_ hH ?_
        rotate_left
        · intro W hW; (try dsimp only at hW); go_simp <;> with_reducible rfl
        simp only [Act.put, List.setIfInBounds_toArray, List.set_cons_zero, List.set_cons_succ]
        refine hTake (i := 9) (v := ?_) rfl (by kernel_rfl) (by kernel_rfl) (by kernel_rfl) (by rfl) ?_ hH ?_
        rotate_left
        · intro W hW; (try dsimp only at hW); go_simp <;> with_reducible rfl
        simp only [Act.put, List.setIfInBounds_toArray, List.set_cons_zero, List.set_cons_succ]
        refine hTake (i := 10) (v := ?_) rfl (by kernel_rfl) (by kernel_rfl) (by kernel_rfl) (by rfl) ?_ hH ?_
        rotate_left
        · intro W hW; (try dsimp only at hW); go_simp <;> with_reducible rfl
        simp only [Act.put, List.setIfInBounds_toArray, List.set_cons_zero, List.set_cons_succ]
        refine hTake (i := 11) (v := ?_) rfl (by kernel_rfl) (by kernel_rfl) (by kernel_rfl) (by rfl) ?_ hH ?_
        rotate_left
        · intro W hW; (try dsimp only at hW); go_simp <;> with_reducible rfl
        simp only [Act.put, List.setIfInBounds_toArray, List.set_cons_zero, List.set_cons_succ]
        refine hTake (i := 12) (v := ?_) rfl (by kernel_rfl) (by kernel_rfl) (by kernel_rfl) (by rfl) ?_ hH ?_
        rotate_left
        · intro W hW; (try dsimp only at hW); go_simp <;> with_reducible rfl
        simp only [Act.put, List.setIfInBounds_toArray, List.set_cons_zero, List.set_cons_succ]
        refine hTake (i := 13) (v := ?_) rfl (by kernel_rfl) (by kernel_rfl) (by kernel_rfl) (by rfl) ?_ hH ?_
        rotate_left
        · intro W hW; (try dsimp only at hW); go_simp <;> with_reducible rfl
        simp only [Act.put, List.setIfInBounds_toArray, List.set_cons_zero, List.set_cons_succ]
        refine hTake (i := 14) (v := ?_) rfl (by kernel_rfl) (by kernel_rfl) (by kernel_rfl) (by rfl) ?_ hH ?_
        rotate_left
        · intro W hW; (try dsimp only at hW); go_simp <;> with_reducible rfl
        simp only [Act.put, List.setIfInBounds_toArray, List.set_cons_zero, List.set_cons_succ]
        refine hTake (i := 15) (v := ?_) rfl (by kernel_rfl) (by kernel_rfl) (by kernel_rfl) (by rfl) ?_ hH ?_
        rotate_left
        · intro W hW; (try dsimp only at hW); go_simp <;> with_reducible rfl
        simp only [Act.put, List.setIfInBounds_toArray, List.set_cons_zero, List.set_cons_succ]
        refine wpAnyH_ready (rs := [16]) (by kernel_rfl) (by simp) ?_
        refine AllReadyH.cons rfl (fun K hK => ?_) AllReadyH.nil
        go_simp
        refine (has_any ah nh ch rt hs _ hH.2.2.2.1 hn).mono ?_
        rintro e w2 ⟨rfl, b2⟩
        rw [hh]
        go_wp2_with fail
        refine hK.out _ _ ?_ (fun hH => ?_)
        · exact ⟨keep_cell b2 hH.1, keep_cell b2 hH.2.1, keep_cell b2 hH.2.2.1, hH.2.2.2.1.below b2, Nat.lt_of_lt_of_le hH.2.2.2.2.1 b2.size, hH.2.2.2.2.2.trans (b2.mono hH.2.2.2.2.2.size)⟩
        clear hK K
        refine hTake (i := 17) (v := ?_) rfl (by kernel_rfl) (by kernel_rfl) (by kernel_rfl) (by rfl) ?_ hH ?_
        rotate_left
        · intro W hW; (try dsimp only at hW); go_simp <;> with_reducible rfl
        simp only [Act.put, List.setIfInBounds_toArray, List.set_cons_zero, List.set_cons_succ]
        refine wpAnyH_done (by kernel_rfl) ?_ _
        refine NoPanic.normal ?_
        go_wp2
        go_roundw
        case rel => exact ⟨k + 1, by omega, by go_num, HS.out hh, hH.1, hH.2.1, hH.2.2.2.2.1, hH.2.2.2.2.2⟩
        case measure => simp [intOf]; omega
    · obtain rfl : k = nq := by omega
      have HE := hid (Ch.conv_is (hs := hs) (qs := qs) (k := k) (by have := HQ.out; omega) HA.out (fun h => by have := HQ.out; omega))
      go_wp2_with fail
      refine wp_region_noPanic ?_
      refine wp_region_held_drew (S := fun W' => W'.cell? ⟨w.heap.size, 1, none⟩ = some (.slice ah nh ch) ∧ W'.cell? ⟨w.heap.size, 2, none⟩ = some (.slice aq k cq) ∧ Below w.heap.size w W') (by kernel_rfl) (⟨x1, x2, hB.drew⟩) (fun hH => ?_)
      refine hTake (i := 0) (v := ?_) rfl (by kernel_rfl) (by kernel_rfl) (by kernel_rfl) (by rfl) ?_ hH ?_
      rotate_left
      · intro W hW; (try dsimp only at hW); go_simp <;> with_reducible rfl
      simp only [Act.put, List.setIfInBounds_toArray, List.set_cons_zero, List.set_cons_succ]
      refine hTake (i := 1) (v := ?_) rfl (by kernel_rfl) (by kernel_rfl) (by kernel_rfl) (by rfl) ?_ hH ?_
      rotate_left
      · intro W hW; (try dsimp only at hW); go_simp <;> with_reducible rfl
      simp only [Act.put, List.setIfInBounds_toArray, List.set_cons_zero, List.set_cons_succ]
      refine hTake (i := 2) (v := ?_) rfl (by kernel_rfl) (by kernel_rfl) (by kernel_rfl) (by rfl) ?_ hH ?_
      rotate_left
      · intro W hW; (try dsimp only at hW); go_simp <;> with_reducible rfl
      simp only [Act.put, List.setIfInBounds_toArray, List.set_cons_zero, List.set_cons_succ]
      refine hTake (i := 3) (v := ?_) rfl (by kernel_rfl) (by kernel_rfl) (by kernel_rfl) (by rfl) ?_ hH ?_
      rotate_left
      · intro W hW; (try dsimp only at hW); go_simp <;> with_reducible rfl
      simp only [Act.put, List.setIfInBounds_toArray, List.set_cons_zero, List.set_cons_succ]
      refine hTake (i := 4) (v := ?_) rfl (by kernel_rfl) (by kernel_rfl) (by kernel_rfl) (by rfl) ?_ hH ?_
      rotate_left
      · intro W hW; (try dsimp only at hW); go_simp <;> with_reducible rfl
      simp only [Act.put, List.setIfInBounds_toArray, List.set_cons_zero, List.set_cons_succ]
      refine hTake (i := 5) (v := ?_) rfl (by kernel_rfl) (by kernel_rfl) (by kernel_rfl) (by rfl) ?_ hH ?_
      rotate_left
      · intro W hW; (try dsimp only at hW); go_simp <;> with_reducible rfl
      simp only [Act.put, List.setIfInBounds_toArray, List.set_cons_zero, List.set_cons_succ]
      refine hTake (i := 6) (v := ?_) rfl (by kernel_rfl) (by kernel_rfl) (by kernel_rfl) (by rfl) ?_ hH ?_
      rotate_left
      · intro W hW; (try dsimp only at hW); go_simp <;> with_reducible rfl
      simp only [Act.put, List.setIfInBounds_toArray, List.set_cons_zero, List.set_cons_succ]
      refine hSkip (i := 7) rfl (by kernel_rfl) (by kernel_rfl) (by kernel_rfl) (by rfl) hH ?_
      simp only [Act.put, List.setIfInBounds_toArray, List.set_cons_zero, List.set_cons_succ]
      refine hSkip (i := 8) rfl (by kernel_rfl) (by kernel_rfl) (by kernel_rfl) (by rfl) hH ?_
      simp only [Act.put, List.setIfInBounds_toArray, List.set_cons_zero, List.set_cons_succ]
      refine hSkip (i := 9) rfl (by kernel_rfl) (by kernel_rfl) (by kernel_rfl) (by rfl) hH ?_
      simp only [Act.put, List.setIfInBounds_toArray, List.set_cons_zero, List.set_cons_succ]
      refine hSkip (i := 10) rfl (by kernel_rfl) (by kernel_rfl) (by kernel_rfl) (by rfl) hH ?_
      simp only [Act.put, List.setIfInBounds_toArray, List.set_cons_zero, List.set_cons_succ]
      refine hSkip (i := 11) rfl (by kernel_rfl) (by kernel_rfl) (by kernel_rfl) (by rfl) hH ?_
      simp only [Act.put, List.setIfInBounds_toArray, List.set_cons_zero, List.set_cons_succ]
      refine hSkip (i := 12) rfl (by kernel_rfl) (by kernel_rfl) (by kernel_rfl) (by rfl) hH ?_
      simp only [Act.put, List.setIfInBounds_toArray, List.set_cons_zero, List.set_cons_succ]
      refine hSkip (i := 13) rfl (by kernel_rfl) (by kernel_rfl) (by kernel_rfl) (by rfl) hH ?_
      simp only [Act.put, List.setIfInBounds_toArray, List.set_cons_zero, List.set_cons_succ]
      refine hSkip (i := 14) rfl (by kernel_rfl) (by kernel_rfl) (by kernel_rfl) (by rfl) hH ?_
      simp only [Act.put, List.setIfInBounds_toArray, List.set_cons_zero, List.set_cons_succ]
      refine hSkip (i := 15) rfl (by kernel_rfl) (by kernel_rfl) (by kernel_rfl) (by rfl) hH ?_
      simp only [Act.put, List.setIfInBounds_toArray, List.set_cons_zero, List.set_cons_succ]
      refine hSkip (i := 16) rfl (by kernel_rfl) (by kernel_rfl) (by kernel_rfl) (by rfl) hH ?_
      simp only [Act.put, List.setIfInBounds_toArray, List.set_cons_zero, List.set_cons_succ]
      refine hTake (i := 17) (v := ?_) rfl (by kernel_rfl) (by kernel_rfl) (by kernel_rfl) (by rfl) ?_ hH ?_
      rotate_left
      · intro W hW; (try dsimp only at hW); go_simp <;> with_reducible rfl
      simp only [Act.put, List.setIfInBounds_toArray, List.set_cons_zero, List.set_cons_succ]
      refine wpAnyH_done (by kernel_rfl) ?_ _
      refine NoPanic.normal ?_
      go_wp2
      go_ret
      exact ⟨ret_int (by rw [HE.out]), hH.2.2⟩

set_option maxHeartbeats 2000000 in
theorem waitsRight_any (r : Int) (ah : Option Addr) (nh ch : Nat) (aq : Option Addr) (nq cq : Nat) (hs qs : List Ch.Hold) (w : World) (h3 : CellsAt w ah (nh * 2) (hcells hs)) (h4 : CellsAt w aq (nq * 2) (hcells qs)) (hn : nh ≤ 1048576) (hq : nq ≤ 1048576) (hg : Ch.namesH hs = true) (hG : Ch.namesH qs = true) :
    Calls Try.prog 184 #[.agg #[.int .i64 r, .slice ah nh ch, .slice aq nq cq]] w fun e w' => e = .returned (.bool (Ch.qOk hs qs && !Ch.headFits hs qs)) ∧ Below w.heap.size w w' := by
  have HQ := h4.hlen
  have HL := h3.hlen
  have HG := hid hg
  have HG2 := hid hG
  clear hg hG
  have kA : ∀ o, Below w.heap.size w (w.alloc o) := fun o => (Below.refl _ _).alloc (Nat.le_refl _) o
  obtain ⟨cv, HCV⟩ : ∃ cv, Hid (Ch.convH hs qs = cv) := ⟨_, rfl⟩
  have hcv : cv ≤ 1048576 := by have := Ch.conv_le hs qs; have := HCV.out; have := HQ.out; omega
  go_enter Try.func184, Try.ntmps184
  go_wp2_with fail
  refine (convCount_any r ah nh ch aq nq cq hs qs _ (h3.below (kA _)) (h4.below (kA _)) hn hq).mono ?_
  rintro e w1 ⟨rfl, b1⟩
  rw [HCV.out]
  have y0 := box_cell b1 0
  have y1 := box_cell b1 1
  have y2 := box_cell b1 2
  simp only [List.getElem?_toArray, List.getElem?_cons_zero, List.getElem?_cons_succ] at y0 y1 y2
  have bA := below_box b1
  have ll0 := lt_of_cell y0
  clear b1
  go_wp2
  go_loopw [13] (fun i wr => ∃ k : Nat, k ≤ nq ∧ i = .int .i64 k ∧ Hid (∀ j, j < k → Ch.qStep hs qs j = true) ∧ wr.cell? ⟨w.heap.size, 0, none⟩ = some (.int .i64 r) ∧ wr.cell? ⟨w.heap.size, 1, none⟩ = some (.slice ah nh ch) ∧ wr.cell? ⟨w.heap.size, 2, none⟩ = some (.slice aq nq cq) ∧ w.heap.size < wr.heap.size ∧ Below w.heap.size w wr) (fun i _ => nq - (intOf i).toNat)
  case atStart => exact ⟨0, Nat.zero_le _, rfl, (fun j hj => by omega), y0, y1, y2, ll0, bA⟩
  case round =>
    clear y0 y1 y2 ll0 bA
    obtain ⟨k, hk, rfl, HA, x0, x1, x2, ll, hB⟩ := hrel
    by_cases hlt : k < nq
    · have hkl : k < qs.length := by have := HQ.out; omega
      have H1 := hid (fun hc => Ch.conv_lt hs qs (k := k) hc)
      have H3 := hid (fun he => Ch.step_all HA.out (Ch.qStep_no (hs := hs) (qs := qs) (k := k) he))
      have H4 := hid (fun he hc => Ch.qOk_false hkl (Ch.qStep_late (hs := hs) (qs := qs) (k := k) he hc))
      have H5 := hid (fun he hc => Ch.qOk_false hkl (Ch.qStep_same (hs := hs) (qs := qs) (k := k) he hc))
      have H6 := hid (fun he hc => Ch.qOk_false hkl (Ch.qStep_cov (hs := hs) (qs := qs) (k := k) he hc))
      have H7 := hid (fun hc h1 h2 => Ch.step_all HA.out (Ch.qStep_ok (hs := hs) (qs := qs) (k := k) hc h1 h2))
      rw [HCV.out] at H1 H4 H7
      obtain ⟨qb, qo, rfl, q0, q1⟩ := (h4.below hB).hold hlt
      have hqb := lt_of_cell q0
      generalize qs.getD k Ch.Hold.zero = q at *
      obtain ⟨rt, rm⟩ := q
      simp only at q0 q1 H1 H3 H4 H5 H6 H7
      have HMH := hid (Ch.modeH_names HG.out rt).2
      have IM := fun W hW => modeOf_any ah nh ch rt hs W hW hn
      generalize Ch.modeH hs rt = hm at *
      have IC := fun W => implCov_any rm hm W
      rw [show (Ch.isM rm && Ch.isM hm && Ch.tab Ch.covT rm hm) = Ch.covers rm hm from rfl] at IC
      have kW : ∀ o, Below wr.heap.size wr (wr.alloc o) := fun o => (Below.refl _ _).alloc (Nat.le_refl _) o
      have kB : ∀ o, Below w.heap.size w (wr.alloc o) := fun o => hB.alloc hB.size o
      have hll : ¬ wr.heap.size = w.heap.size := by omega
      by_cases hkc : k < cv
      · have hd1 : ¬ ((cv : Int) ≤ (k : Int)) := by omega
        by_cases hme : hm = rm
        · have hne : (hm == rm) = true := by simpa using hme
          go_wp2_with fail
          refine (IM _ (h3.below (kB _))).mono ?_
          rintro e w2 ⟨rfl, b2⟩
          have z1 := box_cell b2 1
          simp only [List.getElem?_toArray, List.getElem?_cons_zero, List.getElem?_cons_succ] at z1
          have b2' := hB.trans ((below_box b2).mono hB.size)
          clear b2
          go_wp2
          go_ret
          exact ⟨ret_bool (by rw [H5.out (H1.out hkc) hme.symm]; rfl), b2'⟩
        · have hne : (hm == rm) = false := by simpa using hme
          cases hcb : Ch.covers rm hm
          all_goals rw [hcb] at IC
          all_goals
            go_wp2_with fail
            refine (IM _ (h3.below (kB _))).mono ?_
            rintro e w2 ⟨rfl, b2⟩
            have z1 := box_cell b2 1
            simp only [List.getElem?_toArray, List.getElem?_cons_zero, List.getElem?_cons_succ] at z1
            have b2 := below_box b2
            have b2' := hB.trans (b2.mono hB.size)
            go_wp2_with fail
            refine (IC _).mono ?_
            rintro e w3 ⟨rfl, b3⟩
            have b3w := b2.trans (b3.mono b2.size)
            have b3' := b2'.trans (b3.mono b2'.size)
            clear b2 b2' b3
          · go_wp2
            go_ret
            exact ⟨ret_bool (by rw [H6.out (H1.out hkc) hcb]; rfl), b3'⟩
          · go_wp2
            go_roundw
            case rel => exact ⟨k + 1, by omega, by go_num, H7.out hkc (fun e => hme e.symm) hcb, keep_cell b3w x0, keep_cell b3w x1, keep_cell b3w x2, Nat.lt_of_lt_of_le ll b3w.size, b3'⟩
            case measure => simp [intOf]; omega
      · have hd1 : (cv : Int) ≤ (k : Int) := by omega
        have hd2 : ¬ ((k : Int) < (cv : Int)) := by omega
        by_cases hm0 : hm = 0
        · have hm1 : (hm != 0) = false := by simpa using hm0
          have HH : Hid (Ch.hasH hs rt = false) := by rw [← HMH.out]; exact hm1
          go_wp2_with fail
          refine (IM _ (h3.below (kB _))).mono ?_
          rintro e w2 ⟨rfl, b2⟩
          have b2 := below_box b2
          have b2' := hB.trans (b2.mono hB.size)
          go_wp2
          go_roundw
          case rel => exact ⟨k + 1, by omega, by go_num, H3.out HH.out, keep_cell b2 x0, keep_cell b2 x1, keep_cell b2 x2, Nat.lt_of_lt_of_le ll b2.size, b2'⟩
          case measure => simp [intOf]; omega
        · have hm1 : (hm != 0) = true := by simpa using hm0
          have HH : Hid (Ch.hasH hs rt = true) := by rw [← HMH.out]; exact hm1
          go_wp2_with fail
          refine (IM _ (h3.below (kB _))).mono ?_
          rintro e w2 ⟨rfl, b2⟩
          have b2' := hB.trans ((below_box b2).mono hB.size)
          clear b2
          go_wp2
          go_ret
          exact ⟨ret_bool (by rw [H4.out HH.out (by omega)]; rfl), b2'⟩
    · obtain rfl : k = nq := by omega
      have HO := hid (Ch.qOk_true (hs := hs) (qs := qs) (by have := HQ.out; rw [← this]; exact HA.out))
      go_wp2_with fail
      refine (headFits_any r ah nh ch aq k cq hs qs _ (h3.below hB) (h4.below hB) hn).mono ?_
      rintro e w2 ⟨rfl, b2⟩
      go_wp2
      go_ret
      exact ⟨ret_bool (by rw [HO.out]; simp), hB.trans (b2.mono hB.size)⟩

theorem isUnused_at (r : Int) (ah : Option Addr) (nh ch : Nat) (aq : Option Addr) (nq cq : Nat) (u : Bool) (hu : Hid ((nh + nq == 0) = u)) (w : World) :
    Calls Try.prog 182 #[.agg #[.int .i64 r, .slice ah nh ch, .slice aq nq cq]] w fun e w' => e = .returned (.bool u) ∧ Below w.heap.size w w' := by
  have := isUnused_any r ah nh ch aq nq cq w
  rw [hu.out] at this
  exact this

set_option maxHeartbeats 4000000 in
theorem fault_any (r : Int) (ah : Option Addr) (nh ch : Nat) (aq : Option Addr) (nq cq : Nat) (hs qs : List Ch.Hold) (w : World) (h3 : CellsAt w ah (nh * 2) (hcells hs)) (h4 : CellsAt w aq (nq * 2) (hcells qs)) (hn : nh ≤ 1048576) (hq : nq ≤ 1048576) :
    Calls Try.prog 150 #[.agg #[.int .i64 r, .slice ah nh ch, .slice aq nq cq]] w fun e w' => e = .returned (.int .i64 (Ch.lockFault ⟨r, hs, qs⟩)) ∧ Below w.heap.size w w' := by
  have HQ := h4.hlen
  have HL := h3.hlen
  have kA : ∀ o, Below w.heap.size w (w.alloc o) := fun o => (Below.refl _ _).alloc (Nat.le_refl _) o
  by_cases hmh : 20 < nh
  · have HR := hid (Ch.lock_many (l := ⟨r, hs, qs⟩) (.inl (by have := HL.out; show 20 < hs.length; omega)))
    go_enter Try.func150, Try.ntmps150
    go_wp2
    go_ret
    exact ⟨ret_int HR.out.symm, kA _⟩
  by_cases hmq : 20 < nq
  · have HR := hid (Ch.lock_many (l := ⟨r, hs, qs⟩) (.inr (by have := HQ.out; show 20 < qs.length; omega)))
    have d1 : decide ((20 : Int) < (nh : Int)) = false := by simp; omega
    go_enter Try.func150, Try.ntmps150
    go_wp2
    go_ret
    exact ⟨ret_int HR.out.symm, kA _⟩
  have d1 : decide ((20 : Int) < (nh : Int)) = false := by simp; omega
  have d2 : decide ((20 : Int) < (nq : Int)) = false := by simp; omega
  have H1 : Hid (¬ (20 < hs.length ∨ 20 < qs.length)) := by have := HL.out; have := HQ.out; show ¬ _; omega
  clear hmh hmq
  have IN := fun W hW => inBounds_any ah nh ch hs W hW hn
  have IM := fun W hW => inBounds_any aq nq cq qs W hW hq
  have TH := fun W hW hg => hasTwice_any ah nh ch hs W hW hn hg
  have TQ := fun W hW hg => hasTwice_any aq nq cq qs W hW hq hg
  have AF := fun W hW => allFit_any ah nh ch hs W hW hn
  have WR := fun W hW hW' hg hG => waitsRight_any r ah nh ch aq nq cq hs qs W hW hW' hn hq hg hG
  obtain ⟨u, HU⟩ : ∃ u, Hid ((nh + nq == 0) = u) := ⟨_, rfl⟩
  have UN := fun W => isUnused_at r ah nh ch aq nq cq u HU W
  cases hg : Ch.namesH hs
  · have HR := hid (Ch.lock_name (l := ⟨r, hs, qs⟩) H1.out (by show (Ch.namesH hs && Ch.namesH qs) = false; rw [hg]; rfl))
    rw [hg] at IN
    go_enter Try.func150, Try.ntmps150
    go_wp2_with fail
    refine (IN _ (h3.below (kA _))).mono ?_
    rintro e w1 ⟨rfl, b1⟩
    go_wp2
    go_ret
    exact ⟨ret_int HR.out.symm, below_box b1⟩
  rw [hg] at IN
  have HG := hid hg
  cases hG : Ch.namesH qs
  all_goals rw [hG] at IM
  · have HR := hid (Ch.lock_name (l := ⟨r, hs, qs⟩) H1.out (by show (Ch.namesH hs && Ch.namesH qs) = false; rw [hg, hG]; rfl))
    clear hg hG
    go_enter Try.func150, Try.ntmps150
    go_wp2_with fail
    refine (IN _ (h3.below (kA _))).mono ?_
    rintro e w1 ⟨rfl, b1⟩
    have x2 := box_cell b1 2
    simp only [List.getElem?_toArray, List.getElem?_cons_zero, List.getElem?_cons_succ] at x2
    have b1 := below_box b1
    go_wp2_with fail
    refine (IM _ (h4.below b1)).mono ?_
    rintro e w2 ⟨rfl, b2⟩
    go_wp2
    go_ret
    exact ⟨ret_int HR.out.symm, b1.trans (b2.mono b1.size)⟩
  have HG2 := hid hG
  have H2 : Hid ((Ch.namesH hs && Ch.namesH qs) = true) := by show _ = _; rw [hg, hG]; rfl
  clear hg hG
  have AB : ∀ (t1 t2 : Bool) (TH : ∀ (W : World), CellsAt W ah (nh * 2) (hcells hs) → Calls Try.prog 151 #[.slice ah nh ch] W fun e w' => e = .returned (.bool t1) ∧ Below W.heap.size W w') (TQ : ∀ (W : World), CellsAt W aq (nq * 2) (hcells qs) → Calls Try.prog 151 #[.slice aq nq cq] W fun e w' => e = .returned (.bool t2) ∧ Below W.heap.size W w'),
      Hid (Ch.twice hs = t1) → Hid (Ch.twice qs = t2) → Calls Try.prog 150 #[.agg #[.int .i64 r, .slice ah nh ch, .slice aq nq cq]] w fun e w' => e = .returned (.int .i64 (Ch.lockFault ⟨r, hs, qs⟩)) ∧ Below w.heap.size w w' := by
    intro t1 t2 TH TQ HT1 HT2
    cases t1
    · cases t2
      · have H3 : Hid ((Ch.twice hs || Ch.twice qs) = false) := by show _ = _; rw [HT1.out, HT2.out]; rfl
        have HF := hid (fun h4 => Ch.lock_form (l := ⟨r, hs, qs⟩) H1.out H2.out H3.out h4)
        have HO := hid (fun h4 => Ch.lock_ok (l := ⟨r, hs, qs⟩) H1.out H2.out H3.out h4)
        simp only at HF HO
        rw [← HL.out, ← HQ.out, HU.out] at HF HO
        have WR := fun W hW hW' => WR W hW hW' HG.out HG2.out
        have H45 := hid (Bool.not_and (Ch.qOk hs qs) (!Ch.headFits hs qs))
        generalize (Ch.qOk hs qs && !Ch.headFits hs qs) = wr at *
        generalize Ch.allFit' hs = af at *
        have go1 : Calls Try.prog 150 #[.agg #[.int .i64 r, .slice ah nh ch, .slice aq nq cq]] w fun e w' => e = .returned (.int .i64 (if (u || !af || !wr) = true then 1 else 0)) ∧ Below w.heap.size w w' := by
          clear HF HO H45
          cases u
          all_goals cases af
          all_goals cases wr
          all_goals
            go_enter Try.func150, Try.ntmps150
            go_wp2_with fail
            refine (IN _ (h3.below (kA _))).mono ?_
            rintro e w1 ⟨rfl, b1⟩
            have x0 := box_cell b1 0
            have x1 := box_cell b1 1
            have x2 := box_cell b1 2
            simp only [List.getElem?_toArray, List.getElem?_cons_zero, List.getElem?_cons_succ] at x0 x1 x2
            have b1 := below_box b1
            go_wp2_with fail
            refine (IM _ (h4.below b1)).mono ?_
            rintro e w2 ⟨rfl, b2⟩
            have x0 := keep_cell b2 x0
            have x1 := keep_cell b2 x1
            have x2 := keep_cell b2 x2
            have b2 := b1.trans (b2.mono b1.size)
            clear b1
            go_wp2_with fail
            refine (TH _ (h3.below b2)).mono ?_
            rintro e w3 ⟨rfl, b3⟩
            have x0 := keep_cell b3 x0
            have x1 := keep_cell b3 x1
            have x2 := keep_cell b3 x2
            have b3 := b2.trans (b3.mono b2.size)
            clear b2
            go_wp2_with fail
            refine (TQ _ (h4.below b3)).mono ?_
            rintro e w4 ⟨rfl, b4⟩
            have x0 := keep_cell b4 x0
            have x1 := keep_cell b4 x1
            have x2 := keep_cell b4 x2
            have b4 := b3.trans (b4.mono b3.size)
            have lz := lt_of_cell x0
            clear b3
            go_wp2_with fail
            refine (UN _).mono ?_
            rintro e w5 ⟨rfl, b5⟩
            have x0 := keep_cell b5 x0
            have x1 := keep_cell b5 x1
            have x2 := keep_cell b5 x2
            have b5 := b4.trans (b5.mono b4.size)
            have lz := lt_of_cell x0
            clear b4
          rotate_right 4
          iterate 4
            · go_wp2
              go_ret
              exact ⟨rfl, b5⟩
          all_goals
            go_wp2_with fail
            refine (AF _ (h3.below b5)).mono ?_
            rintro e w6 ⟨rfl, b6⟩
            have x0 := keep_cell b6 x0
            have x1 := keep_cell b6 x1
            have x2 := keep_cell b6 x2
            have b6 := b5.trans (b6.mono b5.size)
            have lz := lt_of_cell x0
            clear b5
          iterate 2
            · go_wp2
              go_ret
              exact ⟨rfl, b6⟩
          all_goals
            go_wp2_with fail
            refine (WR _ (h3.below b6) (h4.below b6)).mono ?_
            rintro e w7 ⟨rfl, b7⟩
            have b7 := b6.trans (b7.mono b6.size)
            go_wp2
            go_ret
            exact ⟨rfl, b7⟩
        refine go1.mono ?_
        rintro e w' ⟨rfl, b'⟩
        refine ⟨ret_int ?_, b'⟩
        have e45 : (!wr) = (!Ch.qOk hs qs || Ch.headFits hs qs) := by rw [H45.out]; simp
        cases hc : (u || !af || !wr)
        · rw [HO.out (by rw [Bool.or_assoc, ← e45]; exact hc)]; rfl
        · rw [HF.out (by rw [Bool.or_assoc, ← e45]; exact hc)]; rfl
      · have HR := hid (Ch.lock_twice (l := ⟨r, hs, qs⟩) H1.out H2.out (by show (Ch.twice hs || Ch.twice qs) = true; rw [HT2.out]; simp))
        go_enter Try.func150, Try.ntmps150
        go_wp2_with fail
        refine (IN _ (h3.below (kA _))).mono ?_
        rintro e w1 ⟨rfl, b1⟩
        have x1 := box_cell b1 1
        have x2 := box_cell b1 2
        simp only [List.getElem?_toArray, List.getElem?_cons_zero, List.getElem?_cons_succ] at x1 x2
        have b1 := below_box b1
        go_wp2_with fail
        refine (IM _ (h4.below b1)).mono ?_
        rintro e w2 ⟨rfl, b2⟩
        have x1 := keep_cell b2 x1
        have x2 := keep_cell b2 x2
        have b2 := b1.trans (b2.mono b1.size)
        clear b1
        go_wp2_with fail
        refine (TH _ (h3.below b2)).mono ?_
        rintro e w3 ⟨rfl, b3⟩
        have x1 := keep_cell b3 x1
        have x2 := keep_cell b3 x2
        have b3 := b2.trans (b3.mono b2.size)
        clear b2
        go_wp2_with fail
        refine (TQ _ (h4.below b3)).mono ?_
        rintro e w4 ⟨rfl, b4⟩
        have b4 := b3.trans (b4.mono b3.size)
        go_wp2
        go_ret
        exact ⟨ret_int HR.out.symm, b4⟩
    · have HR := hid (Ch.lock_twice (l := ⟨r, hs, qs⟩) H1.out H2.out (by show (Ch.twice hs || Ch.twice qs) = true; rw [HT1.out]; simp))
      go_enter Try.func150, Try.ntmps150
      go_wp2_with fail
      refine (IN _ (h3.below (kA _))).mono ?_
      rintro e w1 ⟨rfl, b1⟩
      have x1 := box_cell b1 1
      have x2 := box_cell b1 2
      simp only [List.getElem?_toArray, List.getElem?_cons_zero, List.getElem?_cons_succ] at x1 x2
      have b1 := below_box b1
      go_wp2_with fail
      refine (IM _ (h4.below b1)).mono ?_
      rintro e w2 ⟨rfl, b2⟩
      have x1 := keep_cell b2 x1
      have b2 := b1.trans (b2.mono b1.size)
      clear b1
      go_wp2_with fail
      refine (TH _ (h3.below b2)).mono ?_
      rintro e w3 ⟨rfl, b3⟩
      have b3 := b2.trans (b3.mono b2.size)
      go_wp2
      go_ret
      exact ⟨ret_int HR.out.symm, b3⟩
  exact AB _ _ (fun W hW => TH W hW HG.out) (fun W hW => TQ W hW HG2.out) (hid rfl) (hid rfl)

end Go.Proofs.Ytjagobcogkdfhaa
