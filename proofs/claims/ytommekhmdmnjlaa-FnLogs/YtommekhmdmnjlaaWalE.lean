/- The draw of a log and a place to cut it. -/
import Derived.Test.YtommekhmdmnjlaaWalD
namespace Go.Proofs.Ytommekhmdmnjlaa
open Go.RowKit

set_option maxHeartbeats 1000000 in
theorem next_big (N : Int) (s : Nat) (a : Option Addr) (n cap k : Nat) (zs : List Int) (w : World) (h : Src w s a n cap k zs) (hb : IsB zs) (hn : n ≤ 1048580) (hk : k ≤ 1000) (h1 : 1 ≤ N) (_h2 : N ≤ 1048576) :
    Calls Try.prog 34 #[.pointer (some ⟨s, 0, none⟩), .int .i64 N] w fun e w' => (∃ v : Int, 0 ≤ v ∧ v < N ∧ e = .returned (.int .i64 v)) ∧ Src w' s a n cap (k + 1) zs ∧ w.grownBy w' (some s) := by
  have hS := h.step (i := (k : Int) + 1) rfl
  have q0 : w.cell? ⟨s, 0, none⟩ = some (.slice a n cap) := cell_of_row _ _ _ _ _ _ h.box
  have q1 : w.cell? ⟨s, 1, none⟩ = some (.int .i64 k) := cell_of_row _ _ _ _ _ _ h.box
  have hfz : w.frozen? ⟨s, 1, none⟩ = false := by simp [World.frozen?, h.box]
  have hgr : w.grownBy (w.setCell ⟨s, 1, none⟩ (.int .i64 ((k : Int) + 1))) (some s) := gr_set
  have hlt1 : ¬ N < 1 := by omega
  by_cases h0 : n = 0
  · subst h0
    have m0 : 0 ≤ ((k : Int) * 7) % N := Int.emod_nonneg _ (by omega)
    have m1 : ((k : Int) * 7) % N < N := Int.emod_lt_of_pos _ (by omega)
    go_enter Try.func34, Try.ntmps34
    go_wp2
    go_ret
    exact ⟨⟨_, m0, m1, rfl⟩, hS, hgr⟩
  · obtain ⟨j, hj, hjn⟩ : ∃ j : Nat, (k : Int) % (n : Int) = j ∧ j < n := ⟨k % n, by simp, Nat.mod_lt _ (by omega)⟩
    obtain ⟨j', hj', hjn'⟩ : ∃ j : Nat, ((k : Int) + 1) % (n : Int) = j ∧ j < n := ⟨(k + 1) % n, by simp, Nat.mod_lt _ (by omega)⟩
    obtain ⟨p, hp, hpk⟩ : ∃ p : Nat, (k : Int) / (n : Int) = p ∧ p ≤ k := ⟨k / n, by simp, Nat.div_le_self _ _⟩
    obtain ⟨b, off, rfl, hc⟩ := h.bytes.at hjn
    obtain ⟨b', off', hbo, hc'⟩ := h.bytes.at hjn'
    simp only [Option.some.injEq, Addr.mk.injEq, and_true] at hbo
    obtain ⟨rfl, rfl⟩ := hbo
    obtain ⟨x0, x1⟩ := hb j
    obtain ⟨y0, y1⟩ := hb j'
    generalize zs.getD j 0 = x at *
    generalize zs.getD j' 0 = y at *
    have hfar : b ≠ s := by have := h.far (by omega) _ _ rfl; omega
    have hn0 : ((n : Int) == 0) = false := by simpa using h0
    have hn1 : (n : Int) ≠ 0 := by omega
    by_cases hN : 200 < N
    · have m0 : 0 ≤ ((x + (p : Int) * 37) * 251 + y * 13 + k) % N := Int.emod_nonneg _ (by omega)
      have m1 : ((x + (p : Int) * 37) * 251 + y * 13 + k) % N < N := Int.emod_lt_of_pos _ (by omega)
      go_enter Try.func34, Try.ntmps34
      go_wp2
      go_quiet (fail)
      go_wp2
      go_quiet (fail)
      go_wp2
      go_ret
      exact ⟨⟨_, m0, m1, rfl⟩, hS.drewN _, gr_drewN hgr _⟩
    · have m0 : 0 ≤ (x + (p : Int) * 37) % N := Int.emod_nonneg _ (by omega)
      have m1 : (x + (p : Int) * 37) % N < N := Int.emod_lt_of_pos _ (by omega)
      go_enter Try.func34, Try.ntmps34
      go_wp2
      go_quiet (fail)
      go_wp2
      go_ret
      exact ⟨⟨_, m0, m1, rfl⟩, hS.drewN _, gr_drewN hgr _⟩

set_option linter.unusedSimpArgs false in
set_option maxHeartbeats 8000000 in
theorem drawCrash_any (a : Option Addr) (n cap : Nat) (zs : List Int) (w : World) (h : CellsAt w a n (bts zs)) (hb : IsB zs) (hn : n ≤ 1048576) :
    Calls Try.prog 11 #[.slice a n cap] w fun e w' => ∃ (kept : Int) (aS : Option Addr) (nS cS : Nat) (ss : List Int) (aL : Option Addr) (nL cL : Nat) (ls : List Int), e = .returned (.tuple #[.agg #[.slice aS nS cS, .slice aL nL cL], .int .i64 kept]) ∧ TwoB w' w.heap.size aS nS cS ss aL nL cL ls ∧ nS ≤ 5000 ∧ nL ≤ 5000 ∧ Below w.heap.size w w' := by
  have b0 : Below w.heap.size w (w.alloc (.cells #[.slice none 0 0, .slice none 0 0] 25)) := (Below.refl _ _).alloc (Nat.le_refl _) _
  go_enter Try.func11, Try.ntmps11
  go_wp2_with fail
  refine (source_any a n cap zs _ (h.below b0)).mono ?_
  rintro e w1 ⟨rfl, s1, b1⟩
  have hR1 := (b1.block w.heap.size (by simp)).trans (heap_alloc_new w _)
  have z1 := s1.lt
  have bE := below_box b1
  have hsz : (w.alloc (.cells #[.slice none 0 0, .slice none 0 0] 25)).heap.size = w.heap.size + 1 := by simp
  rw [hsz] at s1 z1 ⊢
  clear b1
  go_wp2_with fail
  refine (l2Wal_any _ a n cap 0 zs _ s1 hb (by omega) (by omega)).mono ?_
  rintro e w2 ⟨kk, aS, nS, cS, ss, aL, nL, cL, ls, rfl, T2, hS5, hL5, hkk, S2, g2⟩
  have hR2 := gr_heap g2 hR1 (by simp)
  have z2 := g2.size
  have bE2 := bE.trans (below_gr g2 (B := w.heap.size) (by omega) (by omega))
  have T3 := T2.below ((Below.refl _ w2).alloc (Nat.le_refl _) (.cells #[.slice aS nS cS, .slice aL nL cL] 25))
  have S3 := S2.new (o := .cells #[.slice aS nS cS, .slice aL nL cL] 25)
  have hR3 := (heap_old' (o := .cells #[.slice aS nS cS, .slice aL nL cL] 25) (show w.heap.size < w2.heap.size by omega)).trans hR2
  have y0 : (w2.alloc (.cells #[.slice aS nS cS, .slice aL nL cL] 25)).cell? ⟨w2.heap.size, 0, none⟩ = some (.slice aS nS cS) := cell_of_row _ _ _ _ _ _ (heap_alloc_new w2 _)
  have y1 : (w2.alloc (.cells #[.slice aS nS cS, .slice aL nL cL] 25)).cell? ⟨w2.heap.size, 1, none⟩ = some (.slice aL nL cL) := cell_of_row _ _ _ _ _ _ (heap_alloc_new w2 _)
  have G3 : w2.grownBy (w2.alloc (.cells #[.slice aS nS cS, .slice aL nL cL] 25)) (some (w.heap.size + 1)) := gr_below ((Below.refl _ w2).alloc (Nat.le_refl _) _) _
  have hwn : IntKind.i64.wrap ((nL : Int) + 1) = (nL : Int) + 1 := IntWalk.i64_in _ ⟨by omega, by omega⟩
  clear s1 g2 bE hR1 hR2 T2 S2
  go_upto_region 4 with fail
  refine wp_region_noPanic ?_
  refine wp_region_held_drew (S := fun W' => W'.cell? ⟨w2.heap.size, 0, none⟩ = some (.slice aS nS cS) ∧ W'.cell? ⟨w2.heap.size, 1, none⟩ = some (.slice aL nL cL)) (by kernel_rfl) (⟨y0, y1⟩) (fun hH => ?_)
  refine hTake (i := 0) (v := ?_) rfl (by kernel_rfl) (by kernel_rfl) (by kernel_rfl) (by rfl) ?_ hH ?_
  rotate_left
  · intro W hW; (try dsimp only at hW); go_simp <;> with_reducible rfl
  simp only [Act.put, List.setIfInBounds_toArray, List.set_cons_zero, List.set_cons_succ]
  refine hTake (i := 1) (v := ?_) rfl (by kernel_rfl) (by kernel_rfl) (by kernel_rfl) (by rfl) ?_ hH ?_
  rotate_left
  · intro W hW; (try dsimp only at hW); go_simp <;> with_reducible rfl
  simp only [Act.put, List.setIfInBounds_toArray, List.set_cons_zero, List.set_cons_succ]
  refine hTake (i := 2) (v := ?_) rfl (by kernel_rfl) (by kernel_rfl) (by kernel_rfl) (by rfl) ?_ hH ?_
  rotate_left
  · intro W hW; (try dsimp only at hW); go_simp <;> with_reducible rfl
  simp only [Act.put, List.setIfInBounds_toArray, List.set_cons_zero, List.set_cons_succ]
  refine hTake (i := 3) (v := ?_) rfl (by kernel_rfl) (by kernel_rfl) (by kernel_rfl) (by rfl) ?_ hH ?_
  rotate_left
  · intro W hW; (try dsimp only at hW); go_simp <;> with_reducible rfl
  simp only [Act.put, List.setIfInBounds_toArray, List.set_cons_zero, List.set_cons_succ]
  refine hTake (i := 4) (v := ?_) rfl (by kernel_rfl) (by kernel_rfl) (by kernel_rfl) (by rfl) ?_ hH ?_
  rotate_left
  · intro W hW; (try dsimp only at hW); go_simp <;> with_reducible rfl
  simp only [Act.put, List.setIfInBounds_toArray, List.set_cons_zero, List.set_cons_succ]
  refine hTake (i := 6) (v := ?_) rfl (by kernel_rfl) (by kernel_rfl) (by kernel_rfl) (by rfl) ?_ hH ?_
  rotate_left
  · intro W hW; (try dsimp only at hW); go_simp <;> with_reducible rfl
  simp only [Act.put, List.setIfInBounds_toArray, List.set_cons_zero, List.set_cons_succ]
  refine hTake (i := 7) (v := ?_) rfl (by kernel_rfl) (by kernel_rfl) (by kernel_rfl) (by rfl) ?_ hH ?_
  rotate_left
  · intro W hW; (try dsimp only at hW); go_simp <;> with_reducible rfl
  simp only [Act.put, List.setIfInBounds_toArray, List.set_cons_zero, List.set_cons_succ]
  refine hTake (i := 8) (v := ?_) rfl (by kernel_rfl) (by kernel_rfl) (by kernel_rfl) (by rfl) ?_ hH ?_
  rotate_left
  · intro W hW; (try dsimp only at hW); go_simp <;> with_reducible rfl
  simp only [Act.put, List.setIfInBounds_toArray, List.set_cons_zero, List.set_cons_succ]
  refine hTake (i := 10) (v := ?_) rfl (by kernel_rfl) (by kernel_rfl) (by kernel_rfl) (by rfl) ?_ hH ?_
  rotate_left
  · intro W hW; (try dsimp only at hW); go_simp <;> with_reducible rfl
  simp only [Act.put, List.setIfInBounds_toArray, List.set_cons_zero, List.set_cons_succ]
  refine hTake (i := 11) (v := ?_) rfl (by kernel_rfl) (by kernel_rfl) (by kernel_rfl) (by rfl) ?_ hH ?_
  rotate_left
  · intro W hW; (try dsimp only at hW); go_simp <;> with_reducible rfl
  simp only [Act.put, List.setIfInBounds_toArray, List.set_cons_zero, List.set_cons_succ]
  refine hTake (i := 12) (v := ?_) rfl (by kernel_rfl) (by kernel_rfl) (by kernel_rfl) (by rfl) ?_ hH ?_
  rotate_left
  · intro W hW; (try dsimp only at hW); go_simp <;> with_reducible rfl
  simp only [Act.put, List.setIfInBounds_toArray, List.set_cons_zero, List.set_cons_succ]
  refine wpAnyH_ready (rs := [5]) (by kernel_rfl) (by simp) ?_
  refine AllReadyH.cons rfl (fun K hK => ?_) AllReadyH.nil
  go_simp
  refine (next_big ((nL : Int) + 1) (w.heap.size + 1) a n cap kk zs _ (S3.drewN 1) hb (by omega) (by omega) (by omega) (by omega)).mono ?_
  rintro e w4 ⟨⟨v4, _, _, rfl⟩, S4, g4⟩
  have T4 := T3.drw.grown g4 (by omega)
  have hR4 := gr_heap (o := .cells #[.slice none 0 0, .slice none 0 0] 25 (0, 0)) g4 hR3 (by simp)
  have G4 := gr_trans (gr_drewN G3 1) g4
  go_wp2_with fail
  refine hK.out _ _ ?_ (fun hH => ?_)
  · exact ⟨grown_cell g4 hH.1 (by simp; omega), grown_cell g4 hH.2 (by simp; omega)⟩
  clear hK K
  refine wpAnyH_ready (rs := [9]) (by kernel_rfl) (by simp) ?_
  refine AllReadyH.cons rfl (fun K hK => ?_) AllReadyH.nil
  go_simp
  refine (next_big ((nL : Int) + 1) (w.heap.size + 1) a n cap (kk + 1) zs _ S4 hb (by omega) (by omega) (by omega) (by omega)).mono ?_
  rintro e w5 ⟨⟨v5, _, _, rfl⟩, S5, g5⟩
  have T5 := T4.grown g5 (by omega)
  have hR5 := gr_heap g5 hR4 (by simp)
  have G5 := gr_trans G4 g5
  go_wp2_with fail
  refine hK.out _ _ ?_ (fun hH => ?_)
  · exact ⟨grown_cell g5 hH.1 (by simp; omega), grown_cell g5 hH.2 (by simp; omega)⟩
  clear hK K
  have b6 : Below w5.heap.size w5 (w5.alloc (.cells ([v4, v5, 0, (nL : Int), (nL : Int) + 1, -1].map (Value.int .i64)).toArray 2)) := (Below.refl _ _).alloc (Nat.le_refl _) _
  have T6 := T5.below b6
  have lR5 := (Array.getElem?_eq_some_iff.1 hR5).1
  have hR6 := (b6.block w.heap.size lR5).trans hR5
  have G6 := gr_on G5 (b6.mono G5.size)
  have S6 := S5.below b6 S5.lt
  have hs5 := S5.lt
  have hg6 : (w5.alloc (.cells ([v4, v5, 0, (nL : Int), (nL : Int) + 1, -1].map (Value.int .i64)).toArray 2)).heap[w5.heap.size]? = some (.cells ([v4, v5, 0, (nL : Int), (nL : Int) + 1, -1].map (Value.int .i64)).toArray 2 (0, 0)) := heap_alloc_new _ _
  refine wpAnyH_ready (rs := [13]) (by kernel_rfl) (by simp) ?_
  refine AllReadyH.cons rfl (fun K hK => ?_) AllReadyH.nil
  go_simp
  refine hK.out _ _ ?_ (fun hH => ?_)
  · exact ⟨keep_cell b6 hH.1, keep_cell b6 hH.2⟩
  clear hK K
  refine wpAnyH_ready (rs := [14]) (by kernel_rfl) (by simp) ?_
  refine AllReadyH.cons rfl (fun K hK => ?_) AllReadyH.nil
  go_simp
  refine (pick_any w5.heap.size 6 [v4, v5, 0, (nL : Int), (nL : Int) + 1, -1] (w.heap.size + 1) a n cap (kk + 1 + 1) zs _ S6 hb (by omega) (by omega) hg6 (by omega) rfl (by omega) (by omega)).mono ?_
  rintro e w7 ⟨⟨kept, _, rfl⟩, S7, g7⟩
  have T7 := T6.grown g7 (by omega)
  have hR7 := gr_heap g7 hR6 (by simp)
  have G7 := gr_trans G6 g7
  go_wp2_with fail
  refine hK.out _ _ ?_ (fun hH => ?_)
  · exact ⟨grown_cell g7 hH.1 (by simp; omega), grown_cell g7 hH.2 (by simp; omega)⟩
  clear hK K
  obtain ⟨r0, r1, t0, t1⟩ := row2 hR7
  refine wpAnyH_ready (rs := [15]) (by kernel_rfl) (by simp) ?_
  refine AllReadyH.cons rfl (fun K hK => ?_) AllReadyH.nil
  go_simp
  refine hK.out _ _ ?_ (fun hH => ?_)
  · refine ⟨?_, ?_⟩
    · rw [World.cell?_setCell_other _ _ _ _ (by simp), World.cell?_setCell_other _ _ _ _ (by simp)]; exact hH.1
    · rw [World.cell?_setCell_other _ _ _ _ (by simp), World.cell?_setCell_other _ _ _ _ (by simp)]; exact hH.2
  clear hK K
  refine hTake (i := 16) (v := ?_) rfl (by kernel_rfl) (by kernel_rfl) (by kernel_rfl) (by rfl) ?_ hH ?_
  rotate_left
  · intro W hW; (try dsimp only at hW); go_simp <;> with_reducible rfl
  simp only [Act.put, List.setIfInBounds_toArray, List.set_cons_zero, List.set_cons_succ]
  refine wpAnyH_done (by kernel_rfl) ?_ _
  refine NoPanic.normal ?_
  go_wp2_with fail
  have bF := bE2.trans (below_gr G7 (B := w.heap.size) (by omega) (by omega))
  exact bodyPost_ret (v := .tuple #[.agg #[.slice aS nS cS, .slice aL nL cL], .int .i64 kept]) (by simp [results, Try.results11, go_sem, r0, r1]) rfl ⟨kept, aS, nS, cS, ss, aL, nL, cL, ls, rfl, ((T7.set (by omega)).set (by omega)).base (by omega), hS5, hL5, (bF.setCell (p := ⟨w.heap.size, 0, none⟩) (Nat.le_refl _) _).setCell (p := ⟨w.heap.size, 1, none⟩) (Nat.le_refl _) _⟩
end Go.Proofs.Ytommekhmdmnjlaa
