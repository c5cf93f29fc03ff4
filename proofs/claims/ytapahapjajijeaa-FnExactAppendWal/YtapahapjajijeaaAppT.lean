
/- AppendWal of the model, where log and record have no fault. -/
import Derived.Test.YtapahapjajijeaaAppS
namespace Go.Proofs.Ytapahapjajijeaa
open Go.RowKit

set_option linter.unusedSimpArgs false in
set_option maxHeartbeats 2000000 in
theorem specApp_big (ad ad' : Addr) (n m cap cap' : Nat) (ss ls : List Int) (kd tx ky : Int) (hd : Bool) (ol : Int) (hs : Bool) (nw : Int) (w : World) (h : CellsAt w (some ad) n (bts ss)) (h' : CellsAt w (some ad') m (bts ls)) (hb : IsB ss) (hb' : IsB ls) (hn : n ≤ 1048576) (hm : m ≤ 1048576) (hcap : n ≤ cap) (hcap' : m ≤ cap') (h0 : Ch.walFault ss ls = 0) (h1 : Ch.Rec.fault ⟨kd, tx, ky, hd, ol, hs, nw⟩ = 0) (hl : 4000 < n + m + Ch.Rec.len ⟨kd, tx, ky, hd, ol, hs, nw⟩) :
    Calls Try.prog 37 #[.agg #[.slice (some ad) n cap, .slice (some ad') m cap'], .agg #[.int .i64 kd, .int .i64 tx, .int .i64 ky, .bool hd, .int .i64 ol, .bool hs, .int .i64 nw]] w fun e w' => e = .returned (.agg #[.int .i64 2, .int .i64 0, .slice none 0 0, .slice none 0 0]) ∧ Below w.heap.size w w' := by
  have b0 : Below w.heap.size w (((w.alloc (.cells #[.slice (some ad) n cap, .slice (some ad') m cap'] 37)).alloc (.cells #[.int .i64 kd, .int .i64 tx, .int .i64 ky, .bool hd, .int .i64 ol, .bool hs, .int .i64 nw] 26)).alloc (.cells #[.int .i64 0, .int .i64 0, .slice none 0 0, .slice none 0 0] 41)) := (((Below.refl _ _).alloc (Nat.le_refl _) _).alloc (by simp) _).alloc (by simp; omega) _
  have hd0 : ((0 : Int) != 0) = false := by simp
  have hfit := Ch.Rec.fit h1
  have hbs := isB_of (Ch.Rec.all_bytes hfit)
  have hln := (Ch.Rec.len_bd ⟨kd, tx, ky, hd, ol, hs, nw⟩).2
  have hsum : n + m ≤ 4000 := by
    have e1 := h.len.out
    have e2 := h'.len.out
    unfold Ch.walFault at h0
    by_cases hbig : 4000 < ss.length + ls.length
    · rw [if_pos hbig] at h0; omega
    · omega
  go_enter Try.func37, Try.ntmps37
  go_wp2_with fail
  refine (l2Fault_any w.heap.size _ _ n m cap cap' ss ls _ (box_at (below_boxT (below_box3U (Below.refl _ _))) 0) (box_at (below_boxT (below_box3U (Below.refl _ _))) 1) (h.below b0) (h'.below b0) hb hb' hn hm hcap hcap').mono ?_
  rw [h0]
  rintro e w1 ⟨rfl, b1⟩
  have b1A := below_boxes3 b1
  have p0 := box_at (below_boxT (below_box3U b1A)) 0
  have p1 := box_at (below_boxT (below_box3U b1A)) 1
  simp at p0 p1
  have q : ∀ i, w1.cell? ⟨w.heap.size + 1, i, none⟩ = (#[.int .i64 kd, .int .i64 tx, .int .i64 ky, .bool hd, .int .i64 ol, .bool hs, .int .i64 nw] : Array Value)[i]? := fun i => box_at2 (below_box3U b1A) i
  have q0 := q 0
  have q1 := q 1
  have q2 := q 2
  have q3 := q 3
  have q4 := q 4
  have q5 := q 5
  have q6 := q 6
  simp at q0 q1 q2 q3 q4 q5 q6
  clear q
  go_wp2_with fail
  refine (specRec_any kd tx ky hd ol hs nw _).mono ?_
  rw [h1]
  rintro e w2 ⟨rfl, b2⟩
  have b2A := b1A.trans (b2.mono (by have := b1A.size; simp at this; omega))
  have p0 := keep_cell b2 p0
  have p1 := keep_cell b2 p1
  have q0 := keep_cell b2 q0
  have q1 := keep_cell b2 q1
  have q2 := keep_cell b2 q2
  have q3 := keep_cell b2 q3
  have q4 := keep_cell b2 q4
  have q5 := keep_cell b2 q5
  have q6 := keep_cell b2 q6
  have hz2 := b2A.size
  simp at hz2
  have bq1 : Below w.heap.size w w2 := below_boxS (below_boxT (below_box3U b2A))
  clear b1 b2 b1A
  go_upto_region 7 with fail
  have HS : Hid (∀ W', Below w2.heap.size w2 W' → W'.cell? ⟨w.heap.size, 0, none⟩ = some (.slice (some ad) n cap) ∧ W'.cell? ⟨w.heap.size, 1, none⟩ = some (.slice (some ad') m cap') ∧ W'.cell? ⟨w.heap.size + 1, 0, none⟩ = some (.int .i64 kd) ∧ W'.cell? ⟨w.heap.size + 1, 1, none⟩ = some (.int .i64 tx) ∧ W'.cell? ⟨w.heap.size + 1, 2, none⟩ = some (.int .i64 ky) ∧ W'.cell? ⟨w.heap.size + 1, 3, none⟩ = some (.bool hd) ∧ W'.cell? ⟨w.heap.size + 1, 4, none⟩ = some (.int .i64 ol) ∧ W'.cell? ⟨w.heap.size + 1, 5, none⟩ = some (.bool hs) ∧ W'.cell? ⟨w.heap.size + 1, 6, none⟩ = some (.int .i64 nw) ∧ Below w2.heap.size w2 W') := fun W' hq => ⟨keep_cell hq p0, keep_cell hq p1, keep_cell hq q0, keep_cell hq q1, keep_cell hq q2, keep_cell hq q3, keep_cell hq q4, keep_cell hq q5, keep_cell hq q6, hq⟩
  have bI : Below w2.heap.size w2 w2.drew := (Below.refl _ _).drew
  have bq : Below w2.heap.size w2 (w2.drew.alloc (.cells #[] 5)) := bI.alloc (by simp) _
  have eo := empty_own w2.drew w2.heap.size (by simp)
  refine wp_region_noPanic ?_
  refine wp_region_held_drew (S := fun W' => W'.cell? ⟨w.heap.size, 0, none⟩ = some (.slice (some ad) n cap) ∧ W'.cell? ⟨w.heap.size, 1, none⟩ = some (.slice (some ad') m cap') ∧ W'.cell? ⟨w.heap.size + 1, 0, none⟩ = some (.int .i64 kd) ∧ W'.cell? ⟨w.heap.size + 1, 1, none⟩ = some (.int .i64 tx) ∧ W'.cell? ⟨w.heap.size + 1, 2, none⟩ = some (.int .i64 ky) ∧ W'.cell? ⟨w.heap.size + 1, 3, none⟩ = some (.bool hd) ∧ W'.cell? ⟨w.heap.size + 1, 4, none⟩ = some (.int .i64 ol) ∧ W'.cell? ⟨w.heap.size + 1, 5, none⟩ = some (.bool hs) ∧ W'.cell? ⟨w.heap.size + 1, 6, none⟩ = some (.int .i64 nw) ∧ Below w2.heap.size w2 W') (by kernel_rfl) (HS.out _ bI) (fun hH => ?_)
  refine hTake (i := 1) (v := ?_) rfl (by kernel_rfl) (by kernel_rfl) (by kernel_rfl) (by rfl) ?_ hH ?_
  rotate_left
  · intro W hW; (try dsimp only at hW); go_simp <;> with_reducible rfl
  simp only [Act.put, List.setIfInBounds_toArray, List.set_cons_zero, List.set_cons_succ]
  refine hTake (i := 2) (v := ?_) rfl (by kernel_rfl) (by kernel_rfl) (by kernel_rfl) (by rfl) ?_ hH ?_
  rotate_left
  · intro W hW; (try dsimp only at hW); go_simp <;> with_reducible rfl
  simp only [Act.put, List.setIfInBounds_toArray, List.set_cons_zero, List.set_cons_succ]
  refine hTake (i := 4) (v := ?_) rfl (by kernel_rfl) (by kernel_rfl) (by kernel_rfl) (by rfl) ?_ hH ?_
  rotate_left
  · intro W hW; (try dsimp only at hW); go_simp <;> with_reducible rfl
  simp only [Act.put, List.setIfInBounds_toArray, List.set_cons_zero, List.set_cons_succ]
  refine wpAnyH_ready (rs := [0]) (by kernel_rfl) (by simp) ?_
  refine AllReadyH.cons rfl (fun K hK => ?_) AllReadyH.nil
  go_simp
  refine hK.out _ _ ?_ (fun hH => ?_)
  · exact HS.out _ bq
  clear hK K
  refine wpAnyH_ready (rs := [3]) (by kernel_rfl) (by simp) ?_
  refine AllReadyH.cons rfl (fun K hK => ?_) AllReadyH.nil
  refine step_appS (.tmp 19) (.tmp 21) w2.heap.size 0 [] m ls (by omega) rfl rfl ⟨_, _, rfl, eo⟩ ⟨_, _, rfl, h'.below (bq1.trans (bq.mono bq1.size))⟩ (by simp) ?_
  intro g3 k3 w3 o3 bb3
  have b3A : Below w2.heap.size w2 w3 := bq.trans bb3
  rw [Nat.zero_add] at o3 ⊢
  rw [List.nil_append] at o3
  have z3 := b3A.size
  refine hK.out _ _ ?_ (fun hH => ?_)
  · exact HS.out _ b3A
  clear hK K
  simp only [Act.put, List.setIfInBounds_toArray, List.set_cons_zero, List.set_cons_succ]
  refine wpAnyH_ready (rs := [5]) (by kernel_rfl) (by simp) ?_
  refine AllReadyH.cons rfl (fun K hK => ?_) AllReadyH.nil
  go_simp
  refine (l2Pack_any kd tx ky hd ol hs nw _ hfit).mono ?_
  rintro e w4 ⟨g4, k4, rfl, o4, b4⟩
  have b4A : Below w2.heap.size w2 w4 := b3A.trans (b4.mono z3)
  have o3 := owns_below o3 b4
  have z4 := b4A.size
  generalize hLen : Ch.Rec.len ⟨kd, tx, ky, hd, ol, hs, nw⟩ = len at *
  generalize hBs : Ch.Rec.bytes ⟨kd, tx, ky, hd, ol, hs, nw⟩ = bs at *
  go_wp2_with fail
  refine hK.out _ _ ?_ (fun hH => ?_)
  · exact HS.out _ b4A
  clear hK K
  refine wpAnyH_ready (rs := [6]) (by kernel_rfl) (by simp) ?_
  refine AllReadyH.cons rfl (fun K hK => ?_) AllReadyH.nil
  refine step_appS (.tmp 22) (.tmp 24) w2.heap.size m (bts ls) len bs (by omega) rfl rfl ⟨_, _, rfl, o3⟩ ⟨_, _, rfl, owns_bytes o4⟩ z4 ?_
  intro g5 k5 w5 o5 bb5
  have b5A : Below w2.heap.size w2 w5 := b4A.trans bb5
  rw [← bts_append] at o5
  have z5 := b5A.size
  have hk5 := owns_cap o5
  refine hK.out _ _ ?_ (fun hH => ?_)
  · exact HS.out _ b5A
  clear hK K
  simp only [Act.put, List.setIfInBounds_toArray, List.set_cons_zero, List.set_cons_succ]
  refine hTake (i := 7) (v := ?_) rfl (by kernel_rfl) (by kernel_rfl) (by kernel_rfl) (by rfl) ?_ hH ?_
  rotate_left
  · intro W hW; (try dsimp only at hW); go_simp <;> with_reducible rfl
  simp only [Act.put, List.setIfInBounds_toArray, List.set_cons_zero, List.set_cons_succ]
  refine wpAnyH_done (by kernel_rfl) ?_ _
  refine NoPanic.normal ?_
  clear hH HS
  have p0 := keep_cell b5A p0
  have b5W := b2A.trans (b5A.mono hz2)
  clear p1 q0 q1 q2 q3 q4 q5 q6 eo o3 o4 b4 b4A b3A bb3 bb5 bq bI
  have hsm : IntKind.i64.wrap ((n : Int) + ((m + len : Nat) : Int)) = (n : Int) + ((m + len : Nat) : Int) := IntWalk.i64_in _ ⟨by omega, by omega⟩
  have hgt : (4000 : Int) < (n : Int) + ((m + len : Nat) : Int) := by omega
  have hRw : w5.heap[w.heap.size + 2]? = some (.cells #[.int .i64 0, .int .i64 0, .slice none 0 0, .slice none 0 0] 41 (0, 0)) := (b5W.block (w.heap.size + 2) (by omega)).trans (heap_new' (by simp))
  obtain ⟨x0, x1, x2, x3⟩ := row4 hRw
  obtain ⟨f0, f1, f2, f3⟩ := frz4 hRw
  have bE := below_boxS (below_boxT (below_box3U b5W))
  generalize m + len = ml at *
  go_wp2
  exact bodyPost_ret (v := .agg #[.int .i64 2, .int .i64 0, .slice none 0 0, .slice none 0 0]) (by simp [results, Try.results37, go_sem, x0, x1, x2, x3]) rfl ⟨rfl, (((bE.setCell (p := ⟨w.heap.size + 2, 0, none⟩) (by simp) _).setCell (p := ⟨w.heap.size + 2, 1, none⟩) (by simp) _).setCell (p := ⟨w.heap.size + 2, 2, none⟩) (by simp) _).setCell (p := ⟨w.heap.size + 2, 3, none⟩) (by simp) _⟩


set_option linter.unusedSimpArgs false in
set_option maxHeartbeats 2000000 in
theorem specApp_ok (ad ad' : Addr) (n m cap cap' : Nat) (ss ls : List Int) (kd tx ky : Int) (hd : Bool) (ol : Int) (hs : Bool) (nw : Int) (w : World) (h : CellsAt w (some ad) n (bts ss)) (h' : CellsAt w (some ad') m (bts ls)) (hb : IsB ss) (hb' : IsB ls) (hn : n ≤ 1048576) (hm : m ≤ 1048576) (hcap : n ≤ cap) (hcap' : m ≤ cap') (h0 : Ch.walFault ss ls = 0) (h1 : Ch.Rec.fault ⟨kd, tx, ky, hd, ol, hs, nw⟩ = 0) (hl : n + m + Ch.Rec.len ⟨kd, tx, ky, hd, ol, hs, nw⟩ ≤ 4000) :
    Calls Try.prog 37 #[.agg #[.slice (some ad) n cap, .slice (some ad') m cap'], .agg #[.int .i64 kd, .int .i64 tx, .int .i64 ky, .bool hd, .int .i64 ol, .bool hs, .int .i64 nw]] w fun e w' => ∃ a1 c1 a2 c2, e = .returned (.agg #[.int .i64 0, .int .i64 ((Ch.reads ss).length + (Ch.reads (ls ++ Ch.Rec.bytes ⟨kd, tx, ky, hd, ol, hs, nw⟩)).length), .slice a1 n c1, .slice a2 (m + Ch.Rec.len ⟨kd, tx, ky, hd, ol, hs, nw⟩) c2]) ∧ w'.ownsRow w.heap.size 5 1 (.slice a1 n c1) n (bts ss) ∧ w'.ownsRow w.heap.size 5 1 (.slice a2 (m + Ch.Rec.len ⟨kd, tx, ky, hd, ol, hs, nw⟩) c2) (m + Ch.Rec.len ⟨kd, tx, ky, hd, ol, hs, nw⟩) (bts (ls ++ Ch.Rec.bytes ⟨kd, tx, ky, hd, ol, hs, nw⟩)) ∧ Below w.heap.size w w' := by
  have b0 : Below w.heap.size w (((w.alloc (.cells #[.slice (some ad) n cap, .slice (some ad') m cap'] 37)).alloc (.cells #[.int .i64 kd, .int .i64 tx, .int .i64 ky, .bool hd, .int .i64 ol, .bool hs, .int .i64 nw] 26)).alloc (.cells #[.int .i64 0, .int .i64 0, .slice none 0 0, .slice none 0 0] 41)) := (((Below.refl _ _).alloc (Nat.le_refl _) _).alloc (by simp) _).alloc (by simp; omega) _
  have hd0 : ((0 : Int) != 0) = false := by simp
  have hfit := Ch.Rec.fit h1
  have hbs := isB_of (Ch.Rec.all_bytes hfit)
  have hln := (Ch.Rec.len_bd ⟨kd, tx, ky, hd, ol, hs, nw⟩).2
  have hsum : n + m ≤ 4000 := by
    have e1 := h.len.out
    have e2 := h'.len.out
    unfold Ch.walFault at h0
    by_cases hbig : 4000 < ss.length + ls.length
    · rw [if_pos hbig] at h0; omega
    · omega
  go_enter Try.func37, Try.ntmps37
  go_wp2_with fail
  refine (l2Fault_any w.heap.size _ _ n m cap cap' ss ls _ (box_at (below_boxT (below_box3U (Below.refl _ _))) 0) (box_at (below_boxT (below_box3U (Below.refl _ _))) 1) (h.below b0) (h'.below b0) hb hb' hn hm hcap hcap').mono ?_
  rw [h0]
  rintro e w1 ⟨rfl, b1⟩
  have b1A := below_boxes3 b1
  have p0 := box_at (below_boxT (below_box3U b1A)) 0
  have p1 := box_at (below_boxT (below_box3U b1A)) 1
  simp at p0 p1
  have q : ∀ i, w1.cell? ⟨w.heap.size + 1, i, none⟩ = (#[.int .i64 kd, .int .i64 tx, .int .i64 ky, .bool hd, .int .i64 ol, .bool hs, .int .i64 nw] : Array Value)[i]? := fun i => box_at2 (below_box3U b1A) i
  have q0 := q 0
  have q1 := q 1
  have q2 := q 2
  have q3 := q 3
  have q4 := q 4
  have q5 := q 5
  have q6 := q 6
  simp at q0 q1 q2 q3 q4 q5 q6
  clear q
  go_wp2_with fail
  refine (specRec_any kd tx ky hd ol hs nw _).mono ?_
  rw [h1]
  rintro e w2 ⟨rfl, b2⟩
  have b2A := b1A.trans (b2.mono (by have := b1A.size; simp at this; omega))
  have p0 := keep_cell b2 p0
  have p1 := keep_cell b2 p1
  have q0 := keep_cell b2 q0
  have q1 := keep_cell b2 q1
  have q2 := keep_cell b2 q2
  have q3 := keep_cell b2 q3
  have q4 := keep_cell b2 q4
  have q5 := keep_cell b2 q5
  have q6 := keep_cell b2 q6
  have hz2 := b2A.size
  simp at hz2
  have bq1 : Below w.heap.size w w2 := below_boxS (below_boxT (below_box3U b2A))
  clear b1 b2 b1A
  go_upto_region 7 with fail
  have HS : Hid (∀ W', Below w2.heap.size w2 W' → W'.cell? ⟨w.heap.size, 0, none⟩ = some (.slice (some ad) n cap) ∧ W'.cell? ⟨w.heap.size, 1, none⟩ = some (.slice (some ad') m cap') ∧ W'.cell? ⟨w.heap.size + 1, 0, none⟩ = some (.int .i64 kd) ∧ W'.cell? ⟨w.heap.size + 1, 1, none⟩ = some (.int .i64 tx) ∧ W'.cell? ⟨w.heap.size + 1, 2, none⟩ = some (.int .i64 ky) ∧ W'.cell? ⟨w.heap.size + 1, 3, none⟩ = some (.bool hd) ∧ W'.cell? ⟨w.heap.size + 1, 4, none⟩ = some (.int .i64 ol) ∧ W'.cell? ⟨w.heap.size + 1, 5, none⟩ = some (.bool hs) ∧ W'.cell? ⟨w.heap.size + 1, 6, none⟩ = some (.int .i64 nw) ∧ Below w2.heap.size w2 W') := fun W' hq => ⟨keep_cell hq p0, keep_cell hq p1, keep_cell hq q0, keep_cell hq q1, keep_cell hq q2, keep_cell hq q3, keep_cell hq q4, keep_cell hq q5, keep_cell hq q6, hq⟩
  have bI : Below w2.heap.size w2 w2.drew := (Below.refl _ _).drew
  have bq : Below w2.heap.size w2 (w2.drew.alloc (.cells #[] 5)) := bI.alloc (by simp) _
  have eo := empty_own w2.drew w2.heap.size (by simp)
  refine wp_region_noPanic ?_
  refine wp_region_held_drew (S := fun W' => W'.cell? ⟨w.heap.size, 0, none⟩ = some (.slice (some ad) n cap) ∧ W'.cell? ⟨w.heap.size, 1, none⟩ = some (.slice (some ad') m cap') ∧ W'.cell? ⟨w.heap.size + 1, 0, none⟩ = some (.int .i64 kd) ∧ W'.cell? ⟨w.heap.size + 1, 1, none⟩ = some (.int .i64 tx) ∧ W'.cell? ⟨w.heap.size + 1, 2, none⟩ = some (.int .i64 ky) ∧ W'.cell? ⟨w.heap.size + 1, 3, none⟩ = some (.bool hd) ∧ W'.cell? ⟨w.heap.size + 1, 4, none⟩ = some (.int .i64 ol) ∧ W'.cell? ⟨w.heap.size + 1, 5, none⟩ = some (.bool hs) ∧ W'.cell? ⟨w.heap.size + 1, 6, none⟩ = some (.int .i64 nw) ∧ Below w2.heap.size w2 W') (by kernel_rfl) (HS.out _ bI) (fun hH => ?_)
  refine hTake (i := 1) (v := ?_) rfl (by kernel_rfl) (by kernel_rfl) (by kernel_rfl) (by rfl) ?_ hH ?_
  rotate_left
  · intro W hW; (try dsimp only at hW); go_simp <;> with_reducible rfl
  simp only [Act.put, List.setIfInBounds_toArray, List.set_cons_zero, List.set_cons_succ]
  refine hTake (i := 2) (v := ?_) rfl (by kernel_rfl) (by kernel_rfl) (by kernel_rfl) (by rfl) ?_ hH ?_
  rotate_left
  · intro W hW; (try dsimp only at hW); go_simp <;> with_reducible rfl
  simp only [Act.put, List.setIfInBounds_toArray, List.set_cons_zero, List.set_cons_succ]
  refine hTake (i := 4) (v := ?_) rfl (by kernel_rfl) (by kernel_rfl) (by kernel_rfl) (by rfl) ?_ hH ?_
  rotate_left
  · intro W hW; (try dsimp only at hW); go_simp <;> with_reducible rfl
  simp only [Act.put, List.setIfInBounds_toArray, List.set_cons_zero, List.set_cons_succ]
  refine wpAnyH_ready (rs := [0]) (by kernel_rfl) (by simp) ?_
  refine AllReadyH.cons rfl (fun K hK => ?_) AllReadyH.nil
  go_simp
  refine hK.out _ _ ?_ (fun hH => ?_)
  · exact HS.out _ bq
  clear hK K
  refine wpAnyH_ready (rs := [3]) (by kernel_rfl) (by simp) ?_
  refine AllReadyH.cons rfl (fun K hK => ?_) AllReadyH.nil
  refine step_appS (.tmp 19) (.tmp 21) w2.heap.size 0 [] m ls (by omega) rfl rfl ⟨_, _, rfl, eo⟩ ⟨_, _, rfl, h'.below (bq1.trans (bq.mono bq1.size))⟩ (by simp) ?_
  intro g3 k3 w3 o3 bb3
  have b3A : Below w2.heap.size w2 w3 := bq.trans bb3
  rw [Nat.zero_add] at o3 ⊢
  rw [List.nil_append] at o3
  have z3 := b3A.size
  refine hK.out _ _ ?_ (fun hH => ?_)
  · exact HS.out _ b3A
  clear hK K
  simp only [Act.put, List.setIfInBounds_toArray, List.set_cons_zero, List.set_cons_succ]
  refine wpAnyH_ready (rs := [5]) (by kernel_rfl) (by simp) ?_
  refine AllReadyH.cons rfl (fun K hK => ?_) AllReadyH.nil
  go_simp
  refine (l2Pack_any kd tx ky hd ol hs nw _ hfit).mono ?_
  rintro e w4 ⟨g4, k4, rfl, o4, b4⟩
  have b4A : Below w2.heap.size w2 w4 := b3A.trans (b4.mono z3)
  have o3 := owns_below o3 b4
  have z4 := b4A.size
  generalize hLen : Ch.Rec.len ⟨kd, tx, ky, hd, ol, hs, nw⟩ = len at *
  generalize hBs : Ch.Rec.bytes ⟨kd, tx, ky, hd, ol, hs, nw⟩ = bs at *
  go_wp2_with fail
  refine hK.out _ _ ?_ (fun hH => ?_)
  · exact HS.out _ b4A
  clear hK K
  refine wpAnyH_ready (rs := [6]) (by kernel_rfl) (by simp) ?_
  refine AllReadyH.cons rfl (fun K hK => ?_) AllReadyH.nil
  refine step_appS (.tmp 22) (.tmp 24) w2.heap.size m (bts ls) len bs (by omega) rfl rfl ⟨_, _, rfl, o3⟩ ⟨_, _, rfl, owns_bytes o4⟩ z4 ?_
  intro g5 k5 w5 o5 bb5
  have b5A : Below w2.heap.size w2 w5 := b4A.trans bb5
  rw [← bts_append] at o5
  have z5 := b5A.size
  have hk5 := owns_cap o5
  refine hK.out _ _ ?_ (fun hH => ?_)
  · exact HS.out _ b5A
  clear hK K
  simp only [Act.put, List.setIfInBounds_toArray, List.set_cons_zero, List.set_cons_succ]
  refine hTake (i := 7) (v := ?_) rfl (by kernel_rfl) (by kernel_rfl) (by kernel_rfl) (by rfl) ?_ hH ?_
  rotate_left
  · intro W hW; (try dsimp only at hW); go_simp <;> with_reducible rfl
  simp only [Act.put, List.setIfInBounds_toArray, List.set_cons_zero, List.set_cons_succ]
  refine wpAnyH_done (by kernel_rfl) ?_ _
  refine NoPanic.normal ?_
  clear hH HS
  have p0 := keep_cell b5A p0
  have b5W := b2A.trans (b5A.mono hz2)
  clear p1 q0 q1 q2 q3 q4 q5 q6 eo o3 o4 b4 b4A b3A bb3 bb5 bq bI
  have hsm : IntKind.i64.wrap ((n : Int) + ((m + len : Nat) : Int)) = (n : Int) + ((m + len : Nat) : Int) := IntWalk.i64_in _ ⟨by omega, by omega⟩
  have hgt : ¬ (4000 : Int) < (n : Int) + ((m + len : Nat) : Int) := by omega
  have hml : m + len ≤ 1048576 := by omega
  generalize hMl : m + len = ml at *
  go_wp2_with fail
  refine (l2Of_two ad ⟨g5, 0, none⟩ n ml cap k5 ss (ls ++ bs) _ (h.below (bq1.trans (b5A.mono bq1.size))) (owns_bytes o5) hb (isB_append hb' hbs) hn hml hcap hk5).mono ?_
  rintro e w6 ⟨a6, k6, a7, k7, rfl, o6, o7, b6⟩
  have b6W := b5W.trans (b6.mono (by omega))
  have hRw : w6.heap[w.heap.size + 2]? = some (.cells #[.int .i64 0, .int .i64 0, .slice none 0 0, .slice none 0 0] 41 (0, 0)) := (b6W.block (w.heap.size + 2) (by omega)).trans (heap_new' (by simp))
  obtain ⟨x0, x1, x2, x3⟩ := row4 hRw
  obtain ⟨f0, f1, f2, f3⟩ := frz4 hRw
  have bE := below_boxS (below_boxT (below_box3U b6W))
  generalize hpp : ((Ch.reads ss).length : Int) + ((Ch.reads (ls ++ bs)).length : Int) = p at *
  go_wp2
  refine bodyPost_ret (v := .agg #[.int .i64 0, .int .i64 p, .slice a6 n k6, .slice a7 ml k7]) (by simp [results, Try.results37, go_sem, x0, x1, x2, x3]) rfl ⟨a6, k6, a7, k7, by rw [hBs, hLen, hMl, hpp], ?_, ?_, (((bE.setCell (p := ⟨w.heap.size + 2, 0, none⟩) (by simp) _).setCell (p := ⟨w.heap.size + 2, 1, none⟩) (by simp) _).setCell (p := ⟨w.heap.size + 2, 2, none⟩) (by simp) _).setCell (p := ⟨w.heap.size + 2, 3, none⟩) (by simp) _⟩
  · (try rw [hBs, hLen, hMl]); exact owns_base (ownsRow_setCell_below (a := ⟨w.heap.size + 2, 3, none⟩) (ownsRow_setCell_below (a := ⟨w.heap.size + 2, 2, none⟩) (ownsRow_setCell_below (a := ⟨w.heap.size + 2, 1, none⟩) (ownsRow_setCell_below (a := ⟨w.heap.size + 2, 0, none⟩) o6 (by simp; omega) _) (by simp; omega) _) (by simp; omega) _) (by simp; omega) _) (by omega)
  · (try rw [hBs, hLen, hMl]); exact owns_base (ownsRow_setCell_below (a := ⟨w.heap.size + 2, 3, none⟩) (ownsRow_setCell_below (a := ⟨w.heap.size + 2, 2, none⟩) (ownsRow_setCell_below (a := ⟨w.heap.size + 2, 1, none⟩) (ownsRow_setCell_below (a := ⟨w.heap.size + 2, 0, none⟩) o7 (by simp; omega) _) (by simp; omega) _) (by simp; omega) _) (by simp; omega) _) (by omega)
end Go.Proofs.Ytapahapjajijeaa
