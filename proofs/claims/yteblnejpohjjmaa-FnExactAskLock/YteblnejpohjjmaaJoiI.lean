
/- JoinModes of the program. -/
import Derived.Test.YteblnejpohjjmaaJoiW
namespace Go.Proofs.Yteblnejpohjjmaa
open Go.RowKit

/-- Two sets are the same. -/
def Ch.sameSet (a b c d : Int) : Bool := Ch.both a b 0 == Ch.both c d 0 && Ch.both a b 1 == Ch.both c d 1 && Ch.both a b 2 == Ch.both c d 2 && Ch.both a b 3 == Ch.both c d 3 && Ch.both a b 4 == Ch.both c d 4 && Ch.both a b 5 == Ch.both c d 5
theorem Ch.join_set {a b m : Int} (ha : Ch.isM a = true) (hb : Ch.isM b = true) (hm : Ch.isM m = true) : Ch.sameSet m m a b = decide (m = Ch.join a b) := by
  rcases Ch.mode_cases ha with rfl | rfl | rfl | rfl | rfl | rfl
  all_goals rcases Ch.mode_cases hb with rfl | rfl | rfl | rfl | rfl | rfl
  all_goals rcases Ch.mode_cases hm with rfl | rfl | rfl | rfl | rfl | rfl
  all_goals rfl
theorem Ch.join_isM {a b : Int} (ha : Ch.isM a = true) (hb : Ch.isM b = true) : Ch.isM (Ch.join a b) = true := by
  rcases Ch.mode_cases ha with rfl | rfl | rfl | rfl | rfl | rfl
  all_goals rcases Ch.mode_cases hb with rfl | rfl | rfl | rfl | rfl | rfl
  all_goals rfl
def joinR (a b : Int) : Value := if Ch.isM a && Ch.isM b then .agg #[.int .i64 0, .int .i64 (Ch.join a b)] else .agg #[.int .i64 3, .int .i64 0]

set_option maxRecDepth 20000 in
set_option maxHeartbeats 1000000 in
theorem implJoin_no (a b : Int) (w : World) (h : (Ch.isM a && Ch.isM b) = false) :
    Calls Try.prog 81 #[.int .i64 a, .int .i64 b] w fun e w' => e = .returned (.agg #[.int .i64 3, .int .i64 0]) ∧ Below w.heap.size w w' := by
  cases ha : Ch.isM a
  · go_enter Try.func81, Try.ntmps81
    go_wp2_with (go_at_call 59; refine (isModeAt ha _).mono ?_; rintro e w' ⟨rfl, rfl⟩)
    exact bodyPost_ret (v := .agg #[.int .i64 3, .int .i64 0]) (by simp [results, Try.results81, go_sem]) rfl ⟨rfl, (Below.refl _ _).alloc (Nat.le_refl _) _⟩
  cases hb : Ch.isM b
  · clear h
    go_enter Try.func81, Try.ntmps81
    go_wp2_with (go_at_call 59; first | refine (isModeAt ha _).mono ?_ | refine (isModeAt hb _).mono ?_
                 rintro e w' ⟨rfl, rfl⟩)
    exact bodyPost_ret (v := .agg #[.int .i64 3, .int .i64 0]) (by simp [results, Try.results81, go_sem]) rfl ⟨rfl, (Below.refl _ _).alloc (Nat.le_refl _) _⟩
  · rw [ha, hb] at h; cases h

set_option maxRecDepth 20000 in
set_option maxHeartbeats 4000000 in
theorem implJoin_ok (a b : Int) (w : World) (ha : Ch.isM a = true) (hb : Ch.isM b = true) :
    Calls Try.prog 81 #[.int .i64 a, .int .i64 b] w fun e w' => e = .returned (.agg #[.int .i64 0, .int .i64 (Ch.join a b)]) ∧ Below w.heap.size w w' := by
  have HJ : Hid (∀ m : Int, Ch.isM m = true → Ch.sameSet m m a b = decide (m = Ch.join a b)) := fun m hm => Ch.join_set ha hb hm
  obtain ⟨j0, j1⟩ := Ch.mode_bd (Ch.join_isM ha hb)
  generalize Ch.join a b = jj at *
  obtain ⟨j, rfl⟩ := Int.eq_ofNat_of_zero_le j0
  have CB := fun W => coverBoth_any a b W ha hb
  have HQ : Hid (∀ m : Int, Ch.sameSet m m a b = (Ch.both m m 0 == Ch.both a b 0 && Ch.both m m 1 == Ch.both a b 1 && Ch.both m m 2 == Ch.both a b 2 && Ch.both m m 3 == Ch.both a b 3 && Ch.both m m 4 == Ch.both a b 4 && Ch.both m m 5 == Ch.both a b 5)) := fun _ => rfl
  obtain ⟨v0, hv0⟩ : ∃ v, Hid (Ch.both a b 0 = v) := ⟨_, rfl⟩
  obtain ⟨v1, hv1⟩ : ∃ v, Hid (Ch.both a b 1 = v) := ⟨_, rfl⟩
  obtain ⟨v2, hv2⟩ : ∃ v, Hid (Ch.both a b 2 = v) := ⟨_, rfl⟩
  obtain ⟨v3, hv3⟩ : ∃ v, Hid (Ch.both a b 3 = v) := ⟨_, rfl⟩
  obtain ⟨v4, hv4⟩ : ∃ v, Hid (Ch.both a b 4 = v) := ⟨_, rfl⟩
  obtain ⟨v5, hv5⟩ : ∃ v, Hid (Ch.both a b 5 = v) := ⟨_, rfl⟩
  rw [hv0.out, hv1.out, hv2.out, hv3.out, hv4.out, hv5.out] at CB
  have HN : Hid (∀ m : Int, Ch.isM m = true → (!(Ch.both m m 0 == v0 && Ch.both m m 1 == v1 && Ch.both m m 2 == v2 && Ch.both m m 3 == v3 && Ch.both m m 4 == v4 && Ch.both m m 5 == v5)) = !decide (m = (j : Int))) := fun m hm => by
    rw [← HJ.out m hm, HQ.out m, hv0.out, hv1.out, hv2.out, hv3.out, hv4.out, hv5.out]
  clear HJ HQ hv0 hv1 hv2 hv3 hv4 hv5
  go_enter Try.func81, Try.ntmps81
  go_wp2_with (first | (go_at_call 59; first | refine (isModeAt ha _).mono ?_ | refine (isModeAt hb _).mono ?_
                        rintro e w' ⟨rfl, rfl⟩) | (go_at_call 112; refine (CB _).mono ?_; rintro e w1 ⟨rfl, b1⟩))
  have r0 := box_cell b1 0
  have r1 := box_cell b1 1
  simp at r0 r1
  have f0 := (bcell b1).2 w.heap.size 0 (by simp)
  have f1 := (bcell b1).2 w.heap.size 1 (by simp)
  have bE := below_box b1
  have z1 := bE.size
  have z0 := lt_of_cell r0
  go_loopw [6] (fun i wr => ∃ k : Nat, k ≤ j ∧ i = .int .i64 k ∧ wr.cell? ⟨w1.heap.size, 0, none⟩ = some (.bool v0) ∧ wr.cell? ⟨w1.heap.size, 1, none⟩ = some (.bool v1) ∧ wr.cell? ⟨w1.heap.size, 2, none⟩ = some (.bool v2) ∧ wr.cell? ⟨w1.heap.size, 3, none⟩ = some (.bool v3) ∧ wr.cell? ⟨w1.heap.size, 4, none⟩ = some (.bool v4) ∧ wr.cell? ⟨w1.heap.size, 5, none⟩ = some (.bool v5) ∧ wr.cell? ⟨w.heap.size, 0, none⟩ = some (.int .i64 0) ∧ wr.cell? ⟨w.heap.size, 1, none⟩ = some (.int .i64 0) ∧ wr.frozen? ⟨w.heap.size, 0, none⟩ = false ∧ wr.frozen? ⟨w.heap.size, 1, none⟩ = false ∧ Below w.heap.size w wr) (fun i _ => 6 - (intOf i).toNat)
  case atStart =>
    refine ⟨0, Nat.zero_le _, rfl, ?_, ?_, ?_, ?_, ?_, ?_, ?_, ?_, ?_, ?_, bE.alloc (by omega) _⟩
    all_goals go_simp
  case round =>
    obtain ⟨k, hk, rfl, x0, x1, x2, x3, x4, x5, y0, y1, g0, g1, hB⟩ := hrel
    generalize w1.heap.size = g at *
    have hk6 : k < 6 := by omega
    by_cases hlt : k < 5
    · have hki : (k : Int) < 5 := by omega
      have hN := HN.out k (isM_nat hk6)
      have neq := fun W => neqSet (Ch.both k k 0) (Ch.both k k 1) (Ch.both k k 2) (Ch.both k k 3) (Ch.both k k 4) (Ch.both k k 5) v0 v1 v2 v3 v4 v5 W
      rw [hN] at neq
      obtain ⟨t, ht⟩ : ∃ t, Hid ((!decide ((k : Int) = (j : Int))) = t) := ⟨_, rfl⟩
      rw [ht.out] at neq
      clear hN HN
      go_upto_region 5 with fail
      have HS : Hid (∀ W', Below wr.heap.size wr W' → W'.cell? ⟨g, 0, none⟩ = some (.bool v0) ∧ W'.cell? ⟨g, 1, none⟩ = some (.bool v1) ∧ W'.cell? ⟨g, 2, none⟩ = some (.bool v2) ∧ W'.cell? ⟨g, 3, none⟩ = some (.bool v3) ∧ W'.cell? ⟨g, 4, none⟩ = some (.bool v4) ∧ W'.cell? ⟨g, 5, none⟩ = some (.bool v5) ∧ Below wr.heap.size wr W') := fun W' hb' => ⟨keep_cell hb' x0, keep_cell hb' x1, keep_cell hb' x2, keep_cell hb' x3, keep_cell hb' x4, keep_cell hb' x5, hb'⟩
      refine wp_region_noPanic ?_
      refine wp_region_held_drew (S := fun W' => W'.cell? ⟨g, 0, none⟩ = some (.bool v0) ∧ W'.cell? ⟨g, 1, none⟩ = some (.bool v1) ∧ W'.cell? ⟨g, 2, none⟩ = some (.bool v2) ∧ W'.cell? ⟨g, 3, none⟩ = some (.bool v3) ∧ W'.cell? ⟨g, 4, none⟩ = some (.bool v4) ∧ W'.cell? ⟨g, 5, none⟩ = some (.bool v5) ∧ Below wr.heap.size wr W') (by kernel_rfl) (HS.out _ (Below.refl _ _).drew) (fun hH => ?_)
      refine hTake (i := 0) (v := ?_) rfl (by kernel_rfl) (by kernel_rfl) (by kernel_rfl) (by rfl) ?_ hH ?_
      rotate_left
      · intro W hW; (try dsimp only at hW); go_simp <;> with_reducible rfl
      simp only [Act.put, List.setIfInBounds_toArray, List.set_cons_zero, List.set_cons_succ]
      refine hTake (i := 1) (v := ?_) rfl (by kernel_rfl) (by kernel_rfl) (by kernel_rfl) (by rfl) ?_ hH ?_
      rotate_left
      · intro W hW; (try dsimp only at hW); go_simp <;> with_reducible rfl
      simp only [Act.put, List.setIfInBounds_toArray, List.set_cons_zero, List.set_cons_succ]
      refine hTake (i := 2) (v := ?_) rfl (by kernel_rfl) (by kernel_rfl) (by kernel_rfl) (by rfl) ?_ hH ?_
      rotate_left
      · intro W hW; (try dsimp only at hW); go_simp <;> with_reducible rfl
      simp only [Act.put, List.setIfInBounds_toArray, List.set_cons_zero, List.set_cons_succ]
      refine hTake (i := 3) (v := ?_) rfl (by kernel_rfl) (by kernel_rfl) (by kernel_rfl) (by rfl) ?_ hH ?_
      rotate_left
      · intro W hW; (try dsimp only at hW); go_simp <;> with_reducible rfl
      simp only [Act.put, List.setIfInBounds_toArray, List.set_cons_zero, List.set_cons_succ]
      refine hTake (i := 4) (v := ?_) rfl (by kernel_rfl) (by kernel_rfl) (by kernel_rfl) (by rfl) ?_ hH ?_
      rotate_left
      · intro W hW; (try dsimp only at hW); go_simp <;> with_reducible rfl
      simp only [Act.put, List.setIfInBounds_toArray, List.set_cons_zero, List.set_cons_succ]
      refine hTake (i := 6) (v := ?_) rfl (by kernel_rfl) (by kernel_rfl) (by kernel_rfl) (by rfl) ?_ hH ?_
      rotate_left
      · intro W hW; (try dsimp only at hW); go_simp <;> with_reducible rfl
      simp only [Act.put, List.setIfInBounds_toArray, List.set_cons_zero, List.set_cons_succ]
      refine wpAnyH_ready (rs := [5]) (by kernel_rfl) (by simp) ?_
      refine AllReadyH.cons rfl (fun K hK => ?_) AllReadyH.nil
      go_simp
      refine (coverBoth_any (k : Int) (k : Int) _ (isM_nat hk6) (isM_nat hk6)).mono ?_
      rintro e w2 ⟨rfl, b2⟩
      have b2A := hH.2.2.2.2.2.2.trans (b2.mono (by simp))
      go_wp2_with fail
      refine hK.out _ _ ?_ (fun hH => ?_)
      · exact HS.out _ b2A
      clear hK K
      refine hTake (i := 7) (v := ?_) rfl (by kernel_rfl) (by kernel_rfl) (by kernel_rfl) (by rfl) ?_ hH ?_
      rotate_left
      · intro W hW; (try dsimp only at hW); go_simp <;> with_reducible rfl
      simp only [Act.put, List.setIfInBounds_toArray, List.set_cons_zero, List.set_cons_succ]
      refine hTake (i := 8) (v := ?_) rfl (by kernel_rfl) (by kernel_rfl) (by kernel_rfl) (by rfl) ?_ hH ?_
      rotate_left
      · intro W hW; (try dsimp only at hW); go_simp <;> with_reducible rfl
      simp only [Act.put, List.setIfInBounds_toArray, List.set_cons_zero, List.set_cons_succ]
      refine wpAnyH_done (by kernel_rfl) ?_ _
      refine NoPanic.normal ?_
      clear hH HS
      have zw := lt_of_cell y0
      replace y0 := keep_cell b2A y0
      replace y1 := keep_cell b2A y1
      replace x0 := keep_cell b2A x0
      replace x1 := keep_cell b2A x1
      replace x2 := keep_cell b2A x2
      replace x3 := keep_cell b2A x3
      replace x4 := keep_cell b2A x4
      replace x5 := keep_cell b2A x5
      replace g0 := ((bcell b2A).2 w.heap.size 0 zw).trans g0
      replace g1 := ((bcell b2A).2 w.heap.size 1 zw).trans g1
      have hB2 := hB.trans (b2A.mono hB.size)
      clear b2 b2A
      cases t
      · obtain rfl : k = j := by have := ht.out; simp at this; omega
        go_wp2_with fail
        exact bodyPost_ret (v := .agg #[.int .i64 0, .int .i64 (k : Int)]) (by simp [results, Try.results81, go_sem, y0, y1]) rfl ⟨rfl, (hB2.setCell (p := ⟨w.heap.size, 0, none⟩) (Nat.le_refl _) _).setCell (p := ⟨w.heap.size, 1, none⟩) (Nat.le_refl _) _⟩
      · have hkj : k ≠ j := by have := ht.out; simp at this; omega
        clear ht neq
        go_wp2_with fail
        go_roundw
        case rel => exact ⟨k + 1, by omega, by go_num, x0, x1, x2, x3, x4, x5, y0, y1, g0, g1, hB2⟩
        case measure => simp [intOf]; omega
    · have hki : ¬ (k : Int) < 5 := by omega
      go_upto_region 5 with fail
      have HS : Hid (∀ W', Below wr.heap.size wr W' → W'.cell? ⟨g, 0, none⟩ = some (.bool v0) ∧ W'.cell? ⟨g, 1, none⟩ = some (.bool v1) ∧ W'.cell? ⟨g, 2, none⟩ = some (.bool v2) ∧ W'.cell? ⟨g, 3, none⟩ = some (.bool v3) ∧ W'.cell? ⟨g, 4, none⟩ = some (.bool v4) ∧ W'.cell? ⟨g, 5, none⟩ = some (.bool v5) ∧ Below wr.heap.size wr W') := fun W' hb' => ⟨keep_cell hb' x0, keep_cell hb' x1, keep_cell hb' x2, keep_cell hb' x3, keep_cell hb' x4, keep_cell hb' x5, hb'⟩
      refine wp_region_noPanic ?_
      refine wp_region_held_drew (S := fun W' => W'.cell? ⟨g, 0, none⟩ = some (.bool v0) ∧ W'.cell? ⟨g, 1, none⟩ = some (.bool v1) ∧ W'.cell? ⟨g, 2, none⟩ = some (.bool v2) ∧ W'.cell? ⟨g, 3, none⟩ = some (.bool v3) ∧ W'.cell? ⟨g, 4, none⟩ = some (.bool v4) ∧ W'.cell? ⟨g, 5, none⟩ = some (.bool v5) ∧ Below wr.heap.size wr W') (by kernel_rfl) (HS.out _ (Below.refl _ _).drew) (fun hH => ?_)
      refine hTake (i := 0) (v := ?_) rfl (by kernel_rfl) (by kernel_rfl) (by kernel_rfl) (by rfl) ?_ hH ?_
      rotate_left
      · intro W hW; (try dsimp only at hW); go_simp <;> with_reducible rfl
      simp only [Act.put, List.setIfInBounds_toArray, List.set_cons_zero, List.set_cons_succ]
      refine hTake (i := 1) (v := ?_) rfl (by kernel_rfl) (by kernel_rfl) (by kernel_rfl) (by rfl) ?_ hH ?_
      rotate_left
      · intro W hW; (try dsimp only at hW); go_simp <;> with_reducible rfl
      simp only [Act.put, List.setIfInBounds_toArray, List.set_cons_zero, List.set_cons_succ]
      refine hTake (i := 2) (v := ?_) rfl (by kernel_rfl) (by kernel_rfl) (by kernel_rfl) (by rfl) ?_ hH ?_
      rotate_left
      · intro W hW; (try dsimp only at hW); go_simp <;> with_reducible rfl
      simp only [Act.put, List.setIfInBounds_toArray, List.set_cons_zero, List.set_cons_succ]
      refine hSkip (i := 3) rfl (by kernel_rfl) (by kernel_rfl) (by kernel_rfl) (by rfl) hH ?_
      simp only [Act.put, List.setIfInBounds_toArray, List.set_cons_zero, List.set_cons_succ]
      refine hSkip (i := 4) rfl (by kernel_rfl) (by kernel_rfl) (by kernel_rfl) (by rfl) hH ?_
      simp only [Act.put, List.setIfInBounds_toArray, List.set_cons_zero, List.set_cons_succ]
      refine hSkip (i := 5) rfl (by kernel_rfl) (by kernel_rfl) (by kernel_rfl) (by rfl) hH ?_
      simp only [Act.put, List.setIfInBounds_toArray, List.set_cons_zero, List.set_cons_succ]
      refine hSkip (i := 6) rfl (by kernel_rfl) (by kernel_rfl) (by kernel_rfl) (by rfl) hH ?_
      simp only [Act.put, List.setIfInBounds_toArray, List.set_cons_zero, List.set_cons_succ]
      refine hSkip (i := 7) rfl (by kernel_rfl) (by kernel_rfl) (by kernel_rfl) (by rfl) hH ?_
      simp only [Act.put, List.setIfInBounds_toArray, List.set_cons_zero, List.set_cons_succ]
      refine hTake (i := 8) (v := ?_) rfl (by kernel_rfl) (by kernel_rfl) (by kernel_rfl) (by rfl) ?_ hH ?_
      rotate_left
      · intro W hW; (try dsimp only at hW); go_simp <;> with_reducible rfl
      simp only [Act.put, List.setIfInBounds_toArray, List.set_cons_zero, List.set_cons_succ]
      refine wpAnyH_done (by kernel_rfl) ?_ _
      refine NoPanic.normal ?_
      obtain rfl : k = j := by omega
      have b2A : Below wr.heap.size wr wr.drew := (Below.refl _ _).drew
      generalize wr.drew = w2 at *
      clear hH HS
      have zw := lt_of_cell y0
      replace y0 := keep_cell b2A y0
      replace y1 := keep_cell b2A y1
      replace x0 := keep_cell b2A x0
      replace x1 := keep_cell b2A x1
      replace x2 := keep_cell b2A x2
      replace x3 := keep_cell b2A x3
      replace x4 := keep_cell b2A x4
      replace x5 := keep_cell b2A x5
      replace g0 := ((bcell b2A).2 w.heap.size 0 zw).trans g0
      replace g1 := ((bcell b2A).2 w.heap.size 1 zw).trans g1
      have hB2 := hB.trans (b2A.mono hB.size)
      go_wp2_with fail
      exact bodyPost_ret (v := .agg #[.int .i64 0, .int .i64 (k : Int)]) (by simp [results, Try.results81, go_sem, y0, y1]) rfl ⟨rfl, (hB2.setCell (p := ⟨w.heap.size, 0, none⟩) (Nat.le_refl _) _).setCell (p := ⟨w.heap.size, 1, none⟩) (Nat.le_refl _) _⟩

theorem implJoin_any (a b : Int) (w : World) :
    Calls Try.prog 81 #[.int .i64 a, .int .i64 b] w fun e w' => e = .returned (joinR a b) ∧ Below w.heap.size w w' := by
  unfold joinR
  cases h : (Ch.isM a && Ch.isM b)
  · exact implJoin_no a b w h
  · simp only [Bool.and_eq_true] at h
    exact implJoin_ok a b w h.1 h.2
end Go.Proofs.Yteblnejpohjjmaa
