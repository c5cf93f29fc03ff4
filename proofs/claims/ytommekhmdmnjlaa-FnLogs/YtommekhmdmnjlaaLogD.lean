/- AppendWal of the program at slices that may be nil. -/
import Derived.Test.YtommekhmdmnjlaaLogA
import Derived.Test.YtommekhmdmnjlaaAppC
import Derived.Test.YtommekhmdmnjlaaCrashW
namespace Go.Proofs.Ytommekhmdmnjlaa
open Go.RowKit

set_option maxHeartbeats 800000 in
theorem implApp_bigO (ad ad' : Option Addr) (n m cap cap' : Nat) (ss ls : List Int) (kd tx ky : Int) (hd : Bool) (ol : Int) (hs : Bool) (nw : Int) (w : World) (h : CellsAt w ad n (bts ss)) (h' : CellsAt w ad' m (bts ls)) (hb : IsB ss) (hb' : IsB ls) (hn : n ≤ 1048576) (hm : m ≤ 1048576) (hcap : n ≤ cap) (hcap' : m ≤ cap') (h0 : Ch.walFault ss ls = 0) (h1 : Ch.Rec.fault ⟨kd, tx, ky, hd, ol, hs, nw⟩ = 0) (hl : 4000 < n + m + Ch.Rec.len ⟨kd, tx, ky, hd, ol, hs, nw⟩) (hl' : Ch.Rec.len ⟨kd, tx, ky, hd, ol, hs, nw⟩ ≤ 11) :
    Calls Try.prog 16 #[.agg #[.slice ad n cap, .slice ad' m cap'], .agg #[.int .i64 kd, .int .i64 tx, .int .i64 ky, .bool hd, .int .i64 ol, .bool hs, .int .i64 nw]] w fun e w' => e = .returned (.agg #[.int .i64 2, .int .i64 0, .slice none 0 0, .slice none 0 0]) ∧ Below w.heap.size w w' := by
  have b0 : Below w.heap.size w (((w.alloc (.cells #[.slice ad n cap, .slice ad' m cap'] 25)).alloc (.cells #[.int .i64 kd, .int .i64 tx, .int .i64 ky, .bool hd, .int .i64 ol, .bool hs, .int .i64 nw] 38)).alloc (.cells #[.int .i64 0, .int .i64 0, .slice none 0 0, .slice none 0 0] 29)) := (((Below.refl _ _).alloc (Nat.le_refl _) _).alloc (by simp) _).alloc (by simp; omega) _
  have hd0 : ((0 : Int) != 0) = false := by simp
  go_enter Try.func16, Try.ntmps16
  go_wp2_with fail
  refine (implWal_any _ _ n m cap cap' ss ls _ (h.below b0) (h'.below b0) hb hb' hn hm hcap hcap').mono ?_
  rw [h0]
  rintro e w1 ⟨rfl, b1⟩
  have b1A := below_boxes3 b1
  have p0 := box_at (below_boxT (below_box3U b1A)) 0
  have p1 := box_at (below_boxT (below_box3U b1A)) 1
  simp at p0 p1
  have q : ∀ i, w1.cell? ⟨w.heap.size + 1, i, none⟩ = (#[.int .i64 kd, .int .i64 tx, .int .i64 ky, .bool hd, .int .i64 ol, .bool hs, .int .i64 nw] : Array Value)[i]? := fun i => box_at2 (below_box3U b1A) i
  have q0 := q 0
  have q1 := q 1
  have q2 := q 2
  have q3 := q 3
  have q4 := q 4
  have q5 := q 5
  have q6 := q 6
  simp at q0 q1 q2 q3 q4 q5 q6
  clear q
  go_wp2_with fail
  refine (implPackRec_ok kd tx ky hd ol hs nw _ h1).mono ?_
  rintro e w2 ⟨g2, k2, rfl, o2, b2⟩
  have b2A := b1A.trans (b2.mono (by have := b1A.size; simp at this; omega))
  have p0' := (b2.cell (p := ⟨w.heap.size, 0, none⟩) (lt_of_cell p0)).trans p0
  have p1' := (b2.cell (p := ⟨w.heap.size, 1, none⟩) (lt_of_cell p1)).trans p1
  have hRw : w2.heap[w.heap.size + 2]? = some (.cells #[.int .i64 0, .int .i64 0, .slice none 0 0, .slice none 0 0] 29 (0, 0)) := (b2A.block (w.heap.size + 2) (by omega)).trans (heap_new' (by simp))
  obtain ⟨x0, x1, x2, x3⟩ := row4 hRw
  obtain ⟨f0, f1, f2, f3⟩ := frz4 hRw
  generalize Ch.Rec.len ⟨kd, tx, ky, hd, ol, hs, nw⟩ = len at *
  have bE := below_boxS (below_boxT (below_box3U b2A))
  have lR := lt_of_cell x0
  have lP := lt_of_cell p0'
  have hsm : IntKind.i64.wrap ((n : Int) + (m : Int)) = (n : Int) + (m : Int) := IntWalk.i64_in _ ⟨by omega, by omega⟩
  have hsm2 : IntKind.i64.wrap ((n : Int) + (m : Int) + (len : Int)) = (n : Int) + (m : Int) + (len : Int) := IntWalk.i64_in _ ⟨by omega, by omega⟩
  have hgt : (4000 : Int) < (n : Int) + (m : Int) + (len : Int) := by omega
  clear b1 b2 o2 h h' p0 p1 q0 q1 q2 q3 q4 q5 q6
  go_wp2
  exact bodyPost_ret (v := .agg #[.int .i64 2, .int .i64 0, .slice none 0 0, .slice none 0 0]) (by simp [results, Try.results16, go_sem, lR, x0, x1, x2, x3]) rfl ⟨rfl, by
    repeat (first | with_reducible exact bE | with_reducible refine Below.alloc ?_ (by simp; omega) _ | with_reducible refine Below.setCell ?_ (by simp; omega) _)⟩


set_option linter.unusedSimpArgs false in
set_option maxHeartbeats 2000000 in
theorem implApp_okO (ad ad' : Option Addr) (n m cap cap' : Nat) (ss ls : List Int) (kd tx ky : Int) (hd : Bool) (ol : Int) (hs : Bool) (nw : Int) (w : World) (h : CellsAt w ad n (bts ss)) (h' : CellsAt w ad' m (bts ls)) (hb : IsB ss) (hb' : IsB ls) (hn : n ≤ 1048576) (hm : m ≤ 1048576) (hcap : n ≤ cap) (hcap' : m ≤ cap') (h0 : Ch.walFault ss ls = 0) (hnil : ad = none → n = 0 ∧ cap = 0) (h1 : Ch.Rec.fault ⟨kd, tx, ky, hd, ol, hs, nw⟩ = 0) (hl : n + m + Ch.Rec.len ⟨kd, tx, ky, hd, ol, hs, nw⟩ ≤ 4000) :
    Calls Try.prog 16 #[.agg #[.slice ad n cap, .slice ad' m cap'], .agg #[.int .i64 kd, .int .i64 tx, .int .i64 ky, .bool hd, .int .i64 ol, .bool hs, .int .i64 nw]] w fun e w' => ∃ a1 c1 a2 c2, e = .returned (.agg #[.int .i64 0, .int .i64 ((Ch.reads ss).length + (Ch.reads (ls ++ Ch.Rec.bytes ⟨kd, tx, ky, hd, ol, hs, nw⟩)).length), .slice a1 n c1, .slice a2 (m + Ch.Rec.len ⟨kd, tx, ky, hd, ol, hs, nw⟩) c2]) ∧ w'.ownsRow w.heap.size 5 1 (.slice a1 n c1) n (bts ss) ∧ w'.ownsRow w.heap.size 5 1 (.slice a2 (m + Ch.Rec.len ⟨kd, tx, ky, hd, ol, hs, nw⟩) c2) (m + Ch.Rec.len ⟨kd, tx, ky, hd, ol, hs, nw⟩) (bts (ls ++ Ch.Rec.bytes ⟨kd, tx, ky, hd, ol, hs, nw⟩)) ∧ (∀ g, (Value.slice a1 n c1).ownBlock = some g → (Value.slice a2 (m + Ch.Rec.len ⟨kd, tx, ky, hd, ol, hs, nw⟩) c2).ownBlock ≠ some g) ∧ Below w.heap.size w w' := by
  have b0 : Below w.heap.size w (((w.alloc (.cells #[.slice ad n cap, .slice ad' m cap'] 25)).alloc (.cells #[.int .i64 kd, .int .i64 tx, .int .i64 ky, .bool hd, .int .i64 ol, .bool hs, .int .i64 nw] 38)).alloc (.cells #[.int .i64 0, .int .i64 0, .slice none 0 0, .slice none 0 0] 29)) := (((Below.refl _ _).alloc (Nat.le_refl _) _).alloc (by simp) _).alloc (by simp; omega) _
  have hd0 : ((0 : Int) != 0) = false := by simp
  have hbs := isB_of (Ch.Rec.all_bytes (Ch.Rec.fit h1))
  go_enter Try.func16, Try.ntmps16
  go_wp2_with fail
  refine (implWal_any _ _ n m cap cap' ss ls _ (h.below b0) (h'.below b0) hb hb' hn hm hcap hcap').mono ?_
  rw [h0]
  rintro e w1 ⟨rfl, b1⟩
  have b1A := below_boxes3 b1
  have p0 := box_at (below_boxT (below_box3U b1A)) 0
  have p1 := box_at (below_boxT (below_box3U b1A)) 1
  simp at p0 p1
  have q : ∀ i, w1.cell? ⟨w.heap.size + 1, i, none⟩ = (#[.int .i64 kd, .int .i64 tx, .int .i64 ky, .bool hd, .int .i64 ol, .bool hs, .int .i64 nw] : Array Value)[i]? := fun i => box_at2 (below_box3U b1A) i
  have q0 := q 0
  have q1 := q 1
  have q2 := q 2
  have q3 := q 3
  have q4 := q 4
  have q5 := q 5
  have q6 := q 6
  simp at q0 q1 q2 q3 q4 q5 q6
  clear q
  go_wp2_with fail
  refine (implPackRec_ok kd tx ky hd ol hs nw _ h1).mono ?_
  rintro e w2 ⟨g2, k2, rfl, o2, b2⟩
  have b2A := b1A.trans (b2.mono (by have := b1A.size; simp at this; omega))
  have p0' := keep_cell b2 p0
  have p1' := keep_cell b2 p1
  have hz2 := b2A.size
  simp at hz2
  have hz2' : w.heap.size ≤ w2.heap.size := by omega
  have bq1 : Below w.heap.size w w2 := below_boxS (below_boxT (below_box3U b2A))
  generalize hLen : Ch.Rec.len ⟨kd, tx, ky, hd, ol, hs, nw⟩ = len at *
  generalize hBs : Ch.Rec.bytes ⟨kd, tx, ky, hd, ol, hs, nw⟩ = bs at *
  have bq0 : Below w.heap.size w (w2.alloc (.cells #[.int .i64 0, .slice (some ⟨g2, 0, none⟩) len k2] 69)).drew := (bq1.alloc hz2' _).drew
  have hsm : IntKind.i64.wrap ((n : Int) + (m : Int)) = (n : Int) + (m : Int) := IntWalk.i64_in _ ⟨by omega, by omega⟩
  have hsm2 : IntKind.i64.wrap ((n : Int) + (m : Int) + (len : Int)) = (n : Int) + (m : Int) + (len : Int) := IntWalk.i64_in _ ⟨by omega, by omega⟩
  have hgt : ¬ (4000 : Int) < (n : Int) + (m : Int) + (len : Int) := by omega
  have lP : w.heap.size < w2.heap.size := by omega
  have lR : w.heap.size + 2 < w2.heap.size := by omega
  clear b1 b2 p0 p1 q0 q1 q2 q3 q4 q5 q6
  go_upto_region 9 with fail
  have HS : Hid (∀ W', Below (w2.heap.size + 1) (w2.alloc (.cells #[.int .i64 0, .slice (some ⟨g2, 0, none⟩) len k2] 69)) W' → W'.cell? ⟨w.heap.size, 0, none⟩ = some (.slice ad n cap) ∧ W'.cell? ⟨w.heap.size, 1, none⟩ = some (.slice ad' m cap') ∧ W'.cell? ⟨w2.heap.size, 1, none⟩ = some (.slice (some ⟨g2, 0, none⟩) len k2)) := fun W' hq => ⟨keep_cell (below_boxS hq) p0', keep_cell (below_boxS hq) p1', by simpa using box_at hq 1⟩
  have bI : Below (w2.heap.size + 1) (w2.alloc (.cells #[.int .i64 0, .slice (some ⟨g2, 0, none⟩) len k2] 69)) (w2.alloc (.cells #[.int .i64 0, .slice (some ⟨g2, 0, none⟩) len k2] 69)).drew := (Below.refl _ _).drew
  refine wp_region_noPanic ?_
  refine wp_region_held_drew (S := fun W' => W'.cell? ⟨w.heap.size, 0, none⟩ = some (.slice ad n cap) ∧ W'.cell? ⟨w.heap.size, 1, none⟩ = some (.slice ad' m cap') ∧ W'.cell? ⟨w2.heap.size, 1, none⟩ = some (.slice (some ⟨g2, 0, none⟩) len k2)) (by kernel_rfl) (HS.out _ bI) (fun hH => ?_)
  refine hTake (i := 0) (v := ?_) rfl (by kernel_rfl) (by kernel_rfl) (by kernel_rfl) (by rfl) ?_ hH ?_
  rotate_left
  · intro W hW; (try dsimp only at hW); go_simp <;> with_reducible rfl
  simp only [Act.put, List.setIfInBounds_toArray, List.set_cons_zero, List.set_cons_succ]
  refine hTake (i := 1) (v := ?_) rfl (by kernel_rfl) (by kernel_rfl) (by kernel_rfl) (by rfl) ?_ hH ?_
  rotate_left
  · intro W hW; (try dsimp only at hW); go_simp <;> with_reducible rfl
  simp only [Act.put, List.setIfInBounds_toArray, List.set_cons_zero, List.set_cons_succ]
  refine hTake (i := 3) (v := ?_) rfl (by kernel_rfl) (by kernel_rfl) (by kernel_rfl) (by rfl) ?_ hH ?_
  rotate_left
  · intro W hW; (try dsimp only at hW); go_simp <;> with_reducible rfl
  simp only [Act.put, List.setIfInBounds_toArray, List.set_cons_zero, List.set_cons_succ]
  refine hTake (i := 4) (v := ?_) rfl (by kernel_rfl) (by kernel_rfl) (by kernel_rfl) (by rfl) ?_ hH ?_
  rotate_left
  · intro W hW; (try dsimp only at hW); go_simp <;> with_reducible rfl
  simp only [Act.put, List.setIfInBounds_toArray, List.set_cons_zero, List.set_cons_succ]
  refine hTake (i := 5) (v := ?_) rfl (by kernel_rfl) (by kernel_rfl) (by kernel_rfl) (by rfl) ?_ hH ?_
  rotate_left
  · intro W hW; (try dsimp only at hW); go_simp <;> with_reducible rfl
  simp only [Act.put, List.setIfInBounds_toArray, List.set_cons_zero, List.set_cons_succ]
  refine hTake (i := 6) (v := ?_) rfl (by kernel_rfl) (by kernel_rfl) (by kernel_rfl) (by rfl) ?_ hH ?_
  rotate_left
  · intro W hW; (try dsimp only at hW); go_simp <;> with_reducible rfl
  simp only [Act.put, List.setIfInBounds_toArray, List.set_cons_zero, List.set_cons_succ]
  refine wpAnyH_ready (rs := [2, 7]) (by kernel_rfl) (by simp) ?_
  refine AllReadyH.cons rfl (fun K hK => ?_) (AllReadyH.cons rfl (fun K hK => ?_) AllReadyH.nil)
  focus
    go_simp
    refine (clone_opt ad n cap ss _ (h.below bq0) hn hnil).mono ?_
    rintro e w3 ⟨a3, k3, rfl, o3q, b3q⟩
    have b3 : Below (w2.heap.size + 1) (w2.alloc (.cells #[.int .i64 0, .slice (some ⟨g2, 0, none⟩) len k2] 69)) w3 := bI.trans (b3q.mono (by simp))
    have z3 := b3.size
    simp at z3
    go_wp2_with fail
    refine hK.out _ _ ?_ (fun hH => ?_)
    · exact HS.out _ b3
    clear hK K
    refine wpAnyH_ready (rs := [7]) (by kernel_rfl) (by simp) ?_
    refine AllReadyH.cons rfl (fun K hK => ?_) AllReadyH.nil
    go_simp
    refine hK.out _ _ ?_ (fun hH => ?_)
    · exact HS.out _ (b3.alloc z3 _)
    clear hK K
    have b3L := b3.alloc z3 (.cells #[.slice ad' m cap', .slice (some ⟨g2, 0, none⟩) len k2] 22)
    refine wpAnyH_ready (rs := [8]) (by kernel_rfl) (by simp) ?_
    refine AllReadyH.cons rfl (fun K hK => ?_) AllReadyH.nil
    go_simp
    refine (concat_anyO w3.heap.size ad' (some ⟨g2, 0, none⟩) m len cap' k2 ls bs _ (by simp) (by simp) (h'.below (bq1.trans ((below_boxS b3L).mono hz2'))) (owns_bytes (owns_below o2 (below_boxS b3L))) (by omega)).mono ?_
    rintro e w4 ⟨a4, k4, rfl, o4q, b4q⟩
    have bT : Below (w2.heap.size + 1) (w2.alloc (.cells #[.int .i64 0, .slice (some ⟨g2, 0, none⟩) len k2] 69)) w4 := b3L.trans (b4q.mono (by simp; omega))
    have hdis : ∀ g, (Value.slice a3 n k3).ownBlock = some g → (Value.slice a4 (m + len) k4).ownBlock ≠ some g := fun g hg hk => by have i1 := (owns_lt o3q g hg).2; have i2 := (owns_lt o4q g hk).1; simp at i2; omega
    have o3 := owns_base (owns_below o3q (below_boxS (by simpa using b4q))) (show w2.heap.size + 1 ≤ _ by simp)
    have o4 := owns_base o4q (show w2.heap.size + 1 ≤ _ by simp; omega)
    clear o3q o4q b3q b4q
    go_wp2_with fail
    refine hK.out _ _ ?_ (fun hH => ?_)
    · exact HS.out _ bT
    clear hK K
    refine hTake (i := 9) (v := ?_) rfl (by kernel_rfl) (by kernel_rfl) (by kernel_rfl) (by rfl) ?_ hH ?_
    rotate_left
    · intro W hW; (try dsimp only at hW); go_simp <;> with_reducible rfl
    simp only [Act.put, List.setIfInBounds_toArray, List.set_cons_zero, List.set_cons_succ]
    refine wpAnyH_ready (rs := [10]) (by kernel_rfl) (by simp) ?_
    refine AllReadyH.cons rfl (fun K hK => ?_) AllReadyH.nil
    go_simp
    refine (counted_any a3 a4 n (m + len) k3 k4 ss (ls ++ bs) _ (owns_bytes o3) (owns_bytes o4) hb (isB_append hb' hbs) (by omega) (by omega) (owns_cap o3) (owns_cap o4)).mono ?_
    rintro e w5 ⟨rfl, b5⟩
    have o3' := owns_below o3 b5
    have o4' := owns_below o4 b5
    have bU := bT.trans (b5.mono (by simpa using bT.size))
    have b5A := b2A.trans ((below_boxS bU).mono hz2)
    generalize hpp : ((Ch.reads ss).length : Int) + ((Ch.reads (ls ++ bs)).length : Int) = p at *
    go_wp2_with fail
    refine hK.out _ _ ?_ (fun hH => ?_)
    · exact HS.out _ bU
    clear hK K
    have hRw : w5.heap[w.heap.size + 2]? = some (.cells #[.int .i64 0, .int .i64 0, .slice none 0 0, .slice none 0 0] 29 (0, 0)) := (b5A.block (w.heap.size + 2) (by omega)).trans (heap_new' (by simp))
    obtain ⟨x0, x1, x2, x3⟩ := row4 hRw
    obtain ⟨f0, f1, f2, f3⟩ := frz4 hRw
    have bE := below_boxS (below_boxT (below_box3U b5A))
    have nS0 : w.heap.size ≠ w.heap.size + 2 := by omega
    have nS1 : w2.heap.size ≠ w.heap.size + 2 := by omega
    have hSS := HS.out _ bU
    have bV := (below_boxS (below_boxT (below_box3U b5A)))
    refine wpAnyH_ready (rs := [11]) (by kernel_rfl) (by simp) ?_
    refine AllReadyH.cons rfl (fun K hK => ?_) AllReadyH.nil
    go_simp
    refine hK.out _ _ ?_ (fun hH => ?_)
    · (refine ⟨?_, ?_, ?_⟩ <;> simp [go_sem, nS0, nS1, hSS])
    clear hK K
    refine wpAnyH_done (by kernel_rfl) ?_ _
    refine NoPanic.normal ?_
    clear hH HS
    go_wp2
    refine bodyPost_ret (v := .agg #[.int .i64 0, .int .i64 p, .slice a3 n k3, .slice a4 (m + len) k4]) (by simp [results, Try.results16, go_sem, x0, x1, x2, x3]) rfl ⟨a3, k3, a4, k4, by rw [hBs, hLen, hpp], ?_, ?_, by rw [hLen]; exact hdis, (((bE.setCell (p := ⟨w.heap.size + 2, 0, none⟩) (by simp) _).setCell (p := ⟨w.heap.size + 2, 1, none⟩) (by simp) _).setCell (p := ⟨w.heap.size + 2, 2, none⟩) (by simp) _).setCell (p := ⟨w.heap.size + 2, 3, none⟩) (by simp) _⟩
    · (try rw [hBs, hLen]); exact owns_base (ownsRow_setCell_below (a := ⟨w.heap.size + 2, 3, none⟩) (ownsRow_setCell_below (a := ⟨w.heap.size + 2, 2, none⟩) (ownsRow_setCell_below (a := ⟨w.heap.size + 2, 1, none⟩) (ownsRow_setCell_below (a := ⟨w.heap.size + 2, 0, none⟩) o3' (by simp; omega) _) (by simp; omega) _) (by simp; omega) _) (by simp; omega) _) (by omega)
    · (try rw [hBs, hLen]); exact owns_base (ownsRow_setCell_below (a := ⟨w.heap.size + 2, 3, none⟩) (ownsRow_setCell_below (a := ⟨w.heap.size + 2, 2, none⟩) (ownsRow_setCell_below (a := ⟨w.heap.size + 2, 1, none⟩) (ownsRow_setCell_below (a := ⟨w.heap.size + 2, 0, none⟩) o4' (by simp; omega) _) (by simp; omega) _) (by simp; omega) _) (by simp; omega) _) (by omega)
  rotate_left
  focus
    go_simp
    refine hK.out _ _ ?_ (fun hH => ?_)
    · exact HS.out _ (bI.alloc (by simp) _)
    clear hK K
    have bL := bI.alloc (by simp) (.cells #[.slice ad' m cap', .slice (some ⟨g2, 0, none⟩) len k2] 22)
    refine wpAnyH_ready (rs := [2]) (by kernel_rfl) (by simp) ?_
    refine AllReadyH.cons rfl (fun K hK => ?_) AllReadyH.nil
    go_simp
    refine (clone_opt ad n cap ss _ (h.below (bq1.trans ((below_boxS bL).mono hz2'))) hn hnil).mono ?_
    rintro e w3 ⟨a3, k3, rfl, o3q, b3q⟩
    have b3 : Below (w2.heap.size + 1) (w2.alloc (.cells #[.int .i64 0, .slice (some ⟨g2, 0, none⟩) len k2] 69)) w3 := bL.trans (b3q.mono (by simp))
    have l0 := box_cell b3q 0
    have l1 := box_cell b3q 1
    simp at l0 l1
    have z3 := b3.size
    simp at z3
    go_wp2_with fail
    refine hK.out _ _ ?_ (fun hH => ?_)
    · exact HS.out _ b3
    clear hK K
    refine wpAnyH_ready (rs := [8]) (by kernel_rfl) (by simp) ?_
    refine AllReadyH.cons rfl (fun K hK => ?_) AllReadyH.nil
    go_simp
    refine (concat_anyO (w2.heap.size + 1) ad' (some ⟨g2, 0, none⟩) m len cap' k2 ls bs _ l0 l1 (h'.below (bq1.trans ((below_boxS b3).mono hz2'))) (owns_bytes (owns_below o2 (below_boxS b3))) (by omega)).mono ?_
    rintro e w4 ⟨a4, k4, rfl, o4q, b4q⟩
    have bT : Below (w2.heap.size + 1) (w2.alloc (.cells #[.int .i64 0, .slice (some ⟨g2, 0, none⟩) len k2] 69)) w4 := b3.trans (b4q.mono (by omega))
    have hdis : ∀ g, (Value.slice a3 n k3).ownBlock = some g → (Value.slice a4 (m + len) k4).ownBlock ≠ some g := fun g hg hk => by have i1 := (owns_lt o3q g hg).2; have i2 := (owns_lt o4q g hk).1; omega
    have o3 := owns_base (owns_below o3q b4q) (show w2.heap.size + 1 ≤ _ by simp)
    have o4 := owns_base o4q (show w2.heap.size + 1 ≤ _ by omega)
    clear o3q o4q b3q b4q
    go_wp2_with fail
    refine hK.out _ _ ?_ (fun hH => ?_)
    · exact HS.out _ bT
    clear hK K
    refine hTake (i := 9) (v := ?_) rfl (by kernel_rfl) (by kernel_rfl) (by kernel_rfl) (by rfl) ?_ hH ?_
    rotate_left
    · intro W hW; (try dsimp only at hW); go_simp <;> with_reducible rfl
    simp only [Act.put, List.setIfInBounds_toArray, List.set_cons_zero, List.set_cons_succ]
    refine wpAnyH_ready (rs := [10]) (by kernel_rfl) (by simp) ?_
    refine AllReadyH.cons rfl (fun K hK => ?_) AllReadyH.nil
    go_simp
    refine (counted_any a3 a4 n (m + len) k3 k4 ss (ls ++ bs) _ (owns_bytes o3) (owns_bytes o4) hb (isB_append hb' hbs) (by omega) (by omega) (owns_cap o3) (owns_cap o4)).mono ?_
    rintro e w5 ⟨rfl, b5⟩
    have o3' := owns_below o3 b5
    have o4' := owns_below o4 b5
    have bU := bT.trans (b5.mono (by simpa using bT.size))
    have b5A := b2A.trans ((below_boxS bU).mono hz2)
    generalize hpp : ((Ch.reads ss).length : Int) + ((Ch.reads (ls ++ bs)).length : Int) = p at *
    go_wp2_with fail
    refine hK.out _ _ ?_ (fun hH => ?_)
    · exact HS.out _ bU
    clear hK K
    have hRw : w5.heap[w.heap.size + 2]? = some (.cells #[.int .i64 0, .int .i64 0, .slice none 0 0, .slice none 0 0] 29 (0, 0)) := (b5A.block (w.heap.size + 2) (by omega)).trans (heap_new' (by simp))
    obtain ⟨x0, x1, x2, x3⟩ := row4 hRw
    obtain ⟨f0, f1, f2, f3⟩ := frz4 hRw
    have bE := below_boxS (below_boxT (below_box3U b5A))
    have nS0 : w.heap.size ≠ w.heap.size + 2 := by omega
    have nS1 : w2.heap.size ≠ w.heap.size + 2 := by omega
    have hSS := HS.out _ bU
    have bV := (below_boxS (below_boxT (below_box3U b5A)))
    refine wpAnyH_ready (rs := [11]) (by kernel_rfl) (by simp) ?_
    refine AllReadyH.cons rfl (fun K hK => ?_) AllReadyH.nil
    go_simp
    refine hK.out _ _ ?_ (fun hH => ?_)
    · (refine ⟨?_, ?_, ?_⟩ <;> simp [go_sem, nS0, nS1, hSS])
    clear hK K
    refine wpAnyH_done (by kernel_rfl) ?_ _
    refine NoPanic.normal ?_
    clear hH HS
    go_wp2
    refine bodyPost_ret (v := .agg #[.int .i64 0, .int .i64 p, .slice a3 n k3, .slice a4 (m + len) k4]) (by simp [results, Try.results16, go_sem, x0, x1, x2, x3]) rfl ⟨a3, k3, a4, k4, by rw [hBs, hLen, hpp], ?_, ?_, by rw [hLen]; exact hdis, (((bE.setCell (p := ⟨w.heap.size + 2, 0, none⟩) (by simp) _).setCell (p := ⟨w.heap.size + 2, 1, none⟩) (by simp) _).setCell (p := ⟨w.heap.size + 2, 2, none⟩) (by simp) _).setCell (p := ⟨w.heap.size + 2, 3, none⟩) (by simp) _⟩
    · (try rw [hBs, hLen]); exact owns_base (ownsRow_setCell_below (a := ⟨w.heap.size + 2, 3, none⟩) (ownsRow_setCell_below (a := ⟨w.heap.size + 2, 2, none⟩) (ownsRow_setCell_below (a := ⟨w.heap.size + 2, 1, none⟩) (ownsRow_setCell_below (a := ⟨w.heap.size + 2, 0, none⟩) o3' (by simp; omega) _) (by simp; omega) _) (by simp; omega) _) (by simp; omega) _) (by omega)
    · (try rw [hBs, hLen]); exact owns_base (ownsRow_setCell_below (a := ⟨w.heap.size + 2, 3, none⟩) (ownsRow_setCell_below (a := ⟨w.heap.size + 2, 2, none⟩) (ownsRow_setCell_below (a := ⟨w.heap.size + 2, 1, none⟩) (ownsRow_setCell_below (a := ⟨w.heap.size + 2, 0, none⟩) o4' (by simp; omega) _) (by simp; omega) _) (by simp; omega) _) (by simp; omega) _) (by omega)
  rotate_left
end Go.Proofs.Ytommekhmdmnjlaa
