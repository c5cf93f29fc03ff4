/- ForceWal at slices that may be nil. -/
import Derived.Test.YtommekhmdmnjlaaLogA
namespace Go.Proofs.Ytommekhmdmnjlaa
open Go.RowKit

set_option maxHeartbeats 1000000 in
theorem implForce_okO (ad ad' : Option Addr) (n m cap cap' : Nat) (ss ls : List Int) (w : World) (h : CellsAt w ad n (bts ss)) (h' : CellsAt w ad' m (bts ls)) (hb : IsB ss) (hb' : IsB ls) (hn : n ≤ 1048576) (hm : m ≤ 1048576) (hcap : n ≤ cap) (hcap' : m ≤ cap') (h0 : Ch.walFault ss ls = 0) :
    Calls Try.prog 15 #[.agg #[.slice ad n cap, .slice ad' m cap']] w fun e w' => ∃ a1 c1, e = .returned (.agg #[.int .i64 0, .int .i64 (Ch.reads (ss ++ ls)).length, .slice a1 (n + m) c1, .slice none 0 0]) ∧ w'.ownsRow w.heap.size 5 1 (.slice a1 (n + m) c1) (n + m) (bts (ss ++ ls)) ∧ Below w.heap.size w w' := by
  have b0 : Below w.heap.size w ((w.alloc (.cells #[.slice ad n cap, .slice ad' m cap'] 25)).alloc (.cells #[.int .i64 0, .int .i64 0, .slice none 0 0, .slice none 0 0] 29)) := ((Below.refl _ _).alloc (Nat.le_refl _) _).alloc (by simp) _
  have hd0 : ((0 : Int) != 0) = false := by simp
  have hsum : n + m ≤ 4000 := by
    have e1 := h.len.out
    have e2 := h'.len.out
    unfold Ch.walFault at h0
    by_cases hbig : 4000 < ss.length + ls.length
    · rw [if_pos hbig] at h0; omega
    · omega
  go_enter Try.func15, Try.ntmps15
  go_wp2_with fail
  refine (implWal_any _ _ n m cap cap' ss ls _ (h.below b0) (h'.below b0) hb hb' hn hm hcap hcap').mono ?_
  rw [h0]
  rintro e w1 ⟨rfl, b1⟩
  have b1A := below_box2 b1
  have p0 := box_at (below_boxT b1A) 0
  have p1 := box_at (below_boxT b1A) 1
  simp at p0 p1
  have bW := below_boxS (below_boxT b1A)
  have hz1 := b1A.size
  simp at hz1
  have bL : Below w.heap.size w (w1.alloc (.cells #[.slice ad n cap, .slice ad' m cap'] 22)) := bW.alloc bW.size _
  have cc := concat_anyO w1.heap.size ad ad' n m cap cap' ss ls (w1.alloc (.cells #[.slice ad n cap, .slice ad' m cap'] 22)) (by simp) (by simp) (h.below bL) (h'.below bL) (by omega)
  go_wp2_with fail
  refine cc.mono ?_
  clear cc
  rintro e w2 ⟨a2, k2, rfl, o2, b2⟩
  have b2A : Below (w.heap.size + 2) ((w.alloc (.cells #[.slice ad n cap, .slice ad' m cap'] 25)).alloc (.cells #[.int .i64 0, .int .i64 0, .slice none 0 0, .slice none 0 0] 29)) w2 := (b1A.alloc hz1 _).trans (b2.mono (by simp; omega))
  have hc2 := owns_bytes o2
  have hk2 := owns_cap o2
  go_wp2_with fail
  refine (counted_any a2 none (n + m) 0 k2 0 (ss ++ ls) [] _ hc2 ⟨rfl, fun h => absurd h (by simp)⟩ (isB_append hb hb') (fun i => by simp) (by omega) (by omega) hk2 (Nat.le_refl _)).mono ?_
  rintro e w3 ⟨rfl, b3⟩
  have b3A := b2A.trans (b3.mono (by have := b2A.size; simp at this; omega))
  have o3 := owns_below o2 b3
  have nilR : ((Ch.reads []).length : Int) = 0 := rfl
  rw [nilR, Int.add_zero]
  have hRw : w3.heap[w.heap.size + 1]? = some (.cells #[.int .i64 0, .int .i64 0, .slice none 0 0, .slice none 0 0] 29 (0, 0)) := (b3A.block (w.heap.size + 1) (by omega)).trans (heap_new' (by simp))
  obtain ⟨x0, x1, x2, x3⟩ := row4 hRw
  obtain ⟨f0, f1, f2, f3⟩ := frz4 hRw
  have bE := below_boxS (below_boxT b3A)
  generalize hpp : (Ch.reads (ss ++ ls)).length = p at *
  go_wp2
  refine bodyPost_ret (v := .agg #[.int .i64 0, .int .i64 p, .slice a2 (n + m) k2, .slice none 0 0]) (by simp [results, Try.results15, go_sem, x0, x1, x2, x3]) rfl ⟨a2, k2, by rw [hpp], ?_, (((bE.setCell (p := ⟨w.heap.size + 1, 0, none⟩) (by simp) _).setCell (p := ⟨w.heap.size + 1, 1, none⟩) (by simp) _).setCell (p := ⟨w.heap.size + 1, 2, none⟩) (by simp) _).setCell (p := ⟨w.heap.size + 1, 3, none⟩) (by simp) _⟩
  exact owns_base (ownsRow_setCell_below (a := ⟨w.heap.size + 1, 3, none⟩) (ownsRow_setCell_below (a := ⟨w.heap.size + 1, 2, none⟩) (ownsRow_setCell_below (a := ⟨w.heap.size + 1, 1, none⟩) (ownsRow_setCell_below (a := ⟨w.heap.size + 1, 0, none⟩) o3 (by simp; omega) _) (by simp; omega) _) (by simp; omega) _) (by simp; omega) _) (by simp; omega)
set_option maxHeartbeats 400000 in
theorem specForce_noO (ad ad' : Option Addr) (n m cap cap' : Nat) (ss ls : List Int) (w : World) (h : CellsAt w ad n (bts ss)) (h' : CellsAt w ad' m (bts ls)) (hb : IsB ss) (hb' : IsB ls) (hn : n ≤ 1048576) (hm : m ≤ 1048576) (hcap : n ≤ cap) (hcap' : m ≤ cap') (c : Int) (h0 : Ch.walFault ss ls = c) (hc : (c != 0) = true) :
    Calls Try.prog 55 #[.agg #[.slice ad n cap, .slice ad' m cap']] w fun e w' => e = .returned (.agg #[.int .i64 c, .int .i64 0, .slice none 0 0, .slice none 0 0]) ∧ Below w.heap.size w w' := by
  have b0 : Below w.heap.size w ((w.alloc (.cells #[.slice ad n cap, .slice ad' m cap'] 25)).alloc (.cells #[.int .i64 0, .int .i64 0, .slice none 0 0, .slice none 0 0] 29)) := ((Below.refl _ _).alloc (Nat.le_refl _) _).alloc (by simp) _
  go_enter Try.func55, Try.ntmps55
  go_wp2_with fail
  refine (l2Fault_any w.heap.size _ _ n m cap cap' ss ls _ (by simp) (by simp) (h.below b0) (h'.below b0) hb hb' hn hm hcap hcap').mono ?_
  rw [h0]
  rintro e w1 ⟨rfl, b1⟩
  have b1A := below_box2 b1
  have hRw : w1.heap[w.heap.size + 1]? = some (.cells #[.int .i64 0, .int .i64 0, .slice none 0 0, .slice none 0 0] 29 (0, 0)) := (b1A.block (w.heap.size + 1) (by omega)).trans (heap_new' (by simp))
  obtain ⟨x0, x1, x2, x3⟩ := row4 hRw
  obtain ⟨f0, f1, f2, f3⟩ := frz4 hRw
  have bE := below_boxS (below_boxT b1A)
  go_wp2
  exact bodyPost_ret (v := .agg #[.int .i64 c, .int .i64 0, .slice none 0 0, .slice none 0 0]) (by simp [results, Try.results55, go_sem, x0, x1, x2, x3]) rfl ⟨rfl, (((bE.setCell (p := ⟨w.heap.size + 1, 0, none⟩) (by simp) _).setCell (p := ⟨w.heap.size + 1, 1, none⟩) (by simp) _).setCell (p := ⟨w.heap.size + 1, 2, none⟩) (by simp) _).setCell (p := ⟨w.heap.size + 1, 3, none⟩) (by simp) _⟩

set_option linter.unusedSimpArgs false in
set_option maxHeartbeats 2000000 in
theorem specForce_okO (ad ad' : Option Addr) (n m cap cap' : Nat) (ss ls : List Int) (w : World) (h : CellsAt w ad n (bts ss)) (h' : CellsAt w ad' m (bts ls)) (hb : IsB ss) (hb' : IsB ls) (hn : n ≤ 1048576) (hm : m ≤ 1048576) (hcap : n ≤ cap) (hcap' : m ≤ cap') (h0 : Ch.walFault ss ls = 0) :
    Calls Try.prog 55 #[.agg #[.slice ad n cap, .slice ad' m cap']] w fun e w' => ∃ a1 c1 a2 c2, e = .returned (.agg #[.int .i64 0, .int .i64 (Ch.reads (ss ++ ls)).length, .slice a1 (n + m) c1, .slice a2 0 c2]) ∧ w'.ownsRow w.heap.size 5 1 (.slice a1 (n + m) c1) (n + m) (bts (ss ++ ls)) ∧ w'.ownsRow w.heap.size 5 1 (.slice a2 0 c2) 0 [] ∧ (∀ g, (Value.slice a1 (n + m) c1).ownBlock = some g → (Value.slice a2 0 c2).ownBlock ≠ some g) ∧ Below w.heap.size w w' := by
  have b0 : Below w.heap.size w ((w.alloc (.cells #[.slice ad n cap, .slice ad' m cap'] 25)).alloc (.cells #[.int .i64 0, .int .i64 0, .slice none 0 0, .slice none 0 0] 29)) := ((Below.refl _ _).alloc (Nat.le_refl _) _).alloc (by simp) _
  have hd0 : ((0 : Int) != 0) = false := by simp
  have hsum : n + m ≤ 4000 := by
    have e1 := h.len.out
    have e2 := h'.len.out
    unfold Ch.walFault at h0
    by_cases hbig : 4000 < ss.length + ls.length
    · rw [if_pos hbig] at h0; omega
    · omega
  go_enter Try.func55, Try.ntmps55
  go_wp2_with fail
  refine (l2Fault_any w.heap.size _ _ n m cap cap' ss ls _ (by simp) (by simp) (h.below b0) (h'.below b0) hb hb' hn hm hcap hcap').mono ?_
  rw [h0]
  rintro e w1 ⟨rfl, b1⟩
  have b1A := below_box2 b1
  clear b1
  go_upto_region 4 with fail
  have HS : Hid (∀ W', Below (w.heap.size + 1) ((w.alloc (.cells #[.slice ad n cap, .slice ad' m cap'] 25)).alloc (.cells #[.int .i64 0, .int .i64 0, .slice none 0 0, .slice none 0 0] 29)) W' → W'.cell? ⟨w.heap.size, 0, none⟩ = some (.slice ad n cap) ∧ W'.cell? ⟨w.heap.size, 1, none⟩ = some (.slice ad' m cap') ∧ Below (w.heap.size + 1) ((w.alloc (.cells #[.slice ad n cap, .slice ad' m cap'] 25)).alloc (.cells #[.int .i64 0, .int .i64 0, .slice none 0 0, .slice none 0 0] 29)) W') := fun W' hb' => ⟨by simpa using box_at (below_boxU hb') 0, by simpa using box_at (below_boxU hb') 1, hb'⟩
  have hz1 := b1A.size
  simp at hz1
  have bq : Below (w.heap.size + 2) ((w.alloc (.cells #[.slice ad n cap, .slice ad' m cap'] 25)).alloc (.cells #[.int .i64 0, .int .i64 0, .slice none 0 0, .slice none 0 0] 29)) (w1.drew.alloc (.cells #[] 5)) := (b1A.drew).alloc (by simpa using hz1) _
  have eo := empty_own w1.drew (w.heap.size + 2) (by simpa using hz1)
  have zq := bq.size
  simp at zq
  refine wp_region_noPanic ?_
  refine wp_region_held_drew (S := fun W' => W'.cell? ⟨w.heap.size, 0, none⟩ = some (.slice ad n cap) ∧ W'.cell? ⟨w.heap.size, 1, none⟩ = some (.slice ad' m cap') ∧ Below (w.heap.size + 1) ((w.alloc (.cells #[.slice ad n cap, .slice ad' m cap'] 25)).alloc (.cells #[.int .i64 0, .int .i64 0, .slice none 0 0, .slice none 0 0] 29)) W') (by kernel_rfl) (HS.out _ (b1A.drew.mono (by omega))) (fun hH => ?_)
  refine hTake (i := 1) (v := ?_) rfl (by kernel_rfl) (by kernel_rfl) (by kernel_rfl) (by rfl) ?_ hH ?_
  rotate_left
  · intro W hW; (try dsimp only at hW); go_simp <;> with_reducible rfl
  simp only [Act.put, List.setIfInBounds_toArray, List.set_cons_zero, List.set_cons_succ]
  refine hTake (i := 2) (v := ?_) rfl (by kernel_rfl) (by kernel_rfl) (by kernel_rfl) (by rfl) ?_ hH ?_
  rotate_left
  · intro W hW; (try dsimp only at hW); go_simp <;> with_reducible rfl
  simp only [Act.put, List.setIfInBounds_toArray, List.set_cons_zero, List.set_cons_succ]
  refine hTake (i := 4) (v := ?_) rfl (by kernel_rfl) (by kernel_rfl) (by kernel_rfl) (by rfl) ?_ hH ?_
  rotate_left
  · intro W hW; (try dsimp only at hW); go_simp <;> with_reducible rfl
  simp only [Act.put, List.setIfInBounds_toArray, List.set_cons_zero, List.set_cons_succ]
  refine hTake (i := 5) (v := ?_) rfl (by kernel_rfl) (by kernel_rfl) (by kernel_rfl) (by rfl) ?_ hH ?_
  rotate_left
  · intro W hW; (try dsimp only at hW); go_simp <;> with_reducible rfl
  simp only [Act.put, List.setIfInBounds_toArray, List.set_cons_zero, List.set_cons_succ]
  refine wpAnyH_ready (rs := [0]) (by kernel_rfl) (by simp) ?_
  refine AllReadyH.cons rfl (fun K hK => ?_) AllReadyH.nil
  go_simp
  refine hK.out _ _ ?_ (fun hH => ?_)
  · exact HS.out _ (bq.mono (by omega))
  clear hK K
  refine wpAnyH_ready (rs := [3]) (by kernel_rfl) (by simp) ?_
  refine AllReadyH.cons rfl (fun K hK => ?_) AllReadyH.nil
  refine step_appSO (.tmp 9) (.tmp 11) (w.heap.size + 2) 0 [] n ss (by omega) rfl rfl ⟨_, _, rfl, eo⟩ ⟨_, _, rfl, h.below (below_boxS (below_boxU (bq.mono (by omega))))⟩ (by simp; omega) ?_
  intro g2 k2 w2 o2 bb2
  have b2A : Below (w.heap.size + 2) ((w.alloc (.cells #[.slice ad n cap, .slice ad' m cap'] 25)).alloc (.cells #[.int .i64 0, .int .i64 0, .slice none 0 0, .slice none 0 0] 29)) w2 := bq.trans bb2
  rw [Nat.zero_add] at o2 ⊢
  rw [List.nil_append] at o2
  have z2 := b2A.size
  simp at z2
  refine hK.out _ _ ?_ (fun hH => ?_)
  · exact HS.out _ (b2A.mono (by omega))
  clear hK K
  simp only [Act.put, List.setIfInBounds_toArray, List.set_cons_zero, List.set_cons_succ]
  refine wpAnyH_ready (rs := [6]) (by kernel_rfl) (by simp) ?_
  refine AllReadyH.cons rfl (fun K hK => ?_) AllReadyH.nil
  refine step_appSO (.tmp 12) (.tmp 14) (w.heap.size + 2) n (bts ss) m ls (by omega) rfl rfl ⟨_, _, rfl, o2⟩ ⟨_, _, rfl, h'.below (below_boxS (below_boxU (b2A.mono (by omega))))⟩ z2 ?_
  intro g3 k3 w3 o3 bb3
  have b3A : Below (w.heap.size + 2) ((w.alloc (.cells #[.slice ad n cap, .slice ad' m cap'] 25)).alloc (.cells #[.int .i64 0, .int .i64 0, .slice none 0 0, .slice none 0 0] 29)) w3 := b2A.trans bb3
  rw [← bts_append] at o3
  have z3 := b3A.size
  simp at z3
  have hk3 := owns_cap o3
  refine hK.out _ _ ?_ (fun hH => ?_)
  · exact HS.out _ (b3A.mono (by omega))
  clear hK K
  simp only [Act.put, List.setIfInBounds_toArray, List.set_cons_zero, List.set_cons_succ]
  refine wpAnyH_ready (rs := [7]) (by kernel_rfl) (by simp) ?_
  refine AllReadyH.cons rfl (fun K hK => ?_) AllReadyH.nil
  go_simp
  refine (l2Of_nilO (some ⟨g3, 0, none⟩) (n + m) k3 (ss ++ ls) _ (owns_bytes o3) (isB_append hb hb') (by omega) hk3).mono ?_
  rintro e w4 ⟨a4, k4, a5, k5, rfl, o4, o5, hdis, b4⟩
  have b4A : Below (w.heap.size + 2) ((w.alloc (.cells #[.slice ad n cap, .slice ad' m cap'] 25)).alloc (.cells #[.int .i64 0, .int .i64 0, .slice none 0 0, .slice none 0 0] 29)) w4 := b3A.trans (b4.mono z3)
  generalize hpp : (Ch.reads (ss ++ ls)).length = p at *
  go_wp2_with fail
  refine hK.out _ _ ?_ (fun hH => ?_)
  · exact HS.out _ (b4A.mono (by omega))
  clear hK K
  have hRw : w4.heap[w.heap.size + 1]? = some (.cells #[.int .i64 0, .int .i64 0, .slice none 0 0, .slice none 0 0] 29 (0, 0)) := (b4A.block (w.heap.size + 1) (by omega)).trans (heap_new' (by simp))
  obtain ⟨x0, x1, x2, x3⟩ := row4 hRw
  obtain ⟨f0, f1, f2, f3⟩ := frz4 hRw
  have bE := below_boxS (below_boxT b4A)
  refine wpAnyH_ready (rs := [8]) (by kernel_rfl) (by simp) ?_
  refine AllReadyH.cons rfl (fun K hK => ?_) AllReadyH.nil
  go_simp
  refine hK.out _ _ ?_ (fun hH => ?_)
  · exact HS.out _ (((((b4A.mono (show w.heap.size + 1 ≤ w.heap.size + 2 by omega)).setCell (p := ⟨w.heap.size + 1, 0, none⟩) (by simp) _).setCell (p := ⟨w.heap.size + 1, 1, none⟩) (by simp) _).setCell (p := ⟨w.heap.size + 1, 2, none⟩) (by simp) _).setCell (p := ⟨w.heap.size + 1, 3, none⟩) (by simp) _)
  clear hK K
  refine wpAnyH_done (by kernel_rfl) ?_ _
  refine NoPanic.normal ?_
  clear hH HS
  go_wp2
  refine bodyPost_ret (v := .agg #[.int .i64 0, .int .i64 p, .slice a4 (n + m) k4, .slice a5 0 k5]) (by simp [results, Try.results55, go_sem, x0, x1, x2, x3]) rfl ⟨a4, k4, a5, k5, by rw [hpp], ?_, ?_, hdis, (((bE.setCell (p := ⟨w.heap.size + 1, 0, none⟩) (by simp) _).setCell (p := ⟨w.heap.size + 1, 1, none⟩) (by simp) _).setCell (p := ⟨w.heap.size + 1, 2, none⟩) (by simp) _).setCell (p := ⟨w.heap.size + 1, 3, none⟩) (by simp) _⟩
  · exact owns_base (ownsRow_setCell_below (a := ⟨w.heap.size + 1, 3, none⟩) (ownsRow_setCell_below (a := ⟨w.heap.size + 1, 2, none⟩) (ownsRow_setCell_below (a := ⟨w.heap.size + 1, 1, none⟩) (ownsRow_setCell_below (a := ⟨w.heap.size + 1, 0, none⟩) o4 (by simp; omega) _) (by simp; omega) _) (by simp; omega) _) (by simp; omega) _) (by omega)
  · exact owns_base (ownsRow_setCell_below (a := ⟨w.heap.size + 1, 3, none⟩) (ownsRow_setCell_below (a := ⟨w.heap.size + 1, 2, none⟩) (ownsRow_setCell_below (a := ⟨w.heap.size + 1, 1, none⟩) (ownsRow_setCell_below (a := ⟨w.heap.size + 1, 0, none⟩) o5 (by simp; omega) _) (by simp; omega) _) (by simp; omega) _) (by simp; omega) _) (by omega)
end Go.Proofs.Ytommekhmdmnjlaa
