
/- compareEdges. -/
import Derived.Test.YtmolddlmjojceaaCmp
import Derived.Test.YtmolddlmjojceaaEdS
import Derived.Test.YtmolddlmjojceaaEdU
import Derived.Test.YtmolddlmjojceaaPackA
namespace Go.Proofs.Ytmolddlmjojceaa
open Go.RowKit Go.Maps Go.Sort

set_option maxRecDepth 20000 in
set_option maxHeartbeats 1000000 in
theorem cmpE_any (x y : Ch.Hold) (W : World) : Calls Try.prog 32 #[.agg #[.int .i64 x.t, .int .i64 x.m], .agg #[.int .i64 y.t, .int .i64 y.m]] W fun e w' => e = .returned (.int .i64 (cfE x y)) ∧ ∃ q os', w' = grow (W.drewN q) os' := by
  obtain ⟨x0, x1⟩ := x
  obtain ⟨y0, y1⟩ := y
  have I0 := fun W => cmpI_any x0 y0 W
  have I1 := fun W => cmpI_any x1 y1 W
  unfold cfE
  simp only
  generalize cfI x0 y0 = c0 at *
  generalize cfI x1 y1 = c1 at *
  have IO := fun blk W h0 h1 => orI_any blk c0 c1 W h0 h1
  generalize (if c0 != 0 then c0 else c1) = r at *
  have k1 := (Below.refl (W.alloc (.cells #[.int .i64 x0, .int .i64 x1] 33)).heap.size (W.alloc (.cells #[.int .i64 x0, .int .i64 x1] 33))).alloc (Nat.le_refl _) (.cells #[.int .i64 y0, .int .i64 y1] 33)
  obtain ⟨a0, a1, _, _⟩ := row2 (heap_alloc_new W (.cells #[.int .i64 x0, .int .i64 x1] 33))
  replace a0 := keep_cell k1 a0
  replace a1 := keep_cell k1 a1
  obtain ⟨b0, b1, _, _⟩ := row2 (heap_alloc_new (W.alloc (.cells #[.int .i64 x0, .int .i64 x1] 33)) (.cells #[.int .i64 y0, .int .i64 y1] 33))
  have sz : (W.alloc (.cells #[.int .i64 x0, .int .i64 x1] 33)).heap.size = W.heap.size + 1 := by simp
  rw [sz] at b0 b1
  clear sz k1
  have kQ := drew_below ((W.alloc (.cells #[.int .i64 x0, .int .i64 x1] 33)).alloc (.cells #[.int .i64 y0, .int .i64 y1] 33)) (.cells #[.int .i64 c0, .int .i64 c1] 3)
  go_enter Try.func32, Try.ntmps32
  go_wp2_with fail
  refine wp_region_noPanic ?_
  refine wp_region_held_drew (S := fun W' => W'.cell? ⟨W.heap.size, 0, none⟩ = some (.int .i64 x0) ∧ W'.cell? ⟨W.heap.size, 1, none⟩ = some (.int .i64 x1) ∧ W'.cell? ⟨W.heap.size + 1, 0, none⟩ = some (.int .i64 y0) ∧ W'.cell? ⟨W.heap.size + 1, 1, none⟩ = some (.int .i64 y1)) (by kernel_rfl) (⟨a0, a1, b0, b1⟩) (fun hH => ?_)
  refine hTake (i := 0) (v := ?_) rfl (by kernel_rfl) (by kernel_rfl) (by kernel_rfl) (by rfl) ?_ hH ?_
  rotate_left
  · intro W hW; (try dsimp only at hW); go_simp <;> with_reducible rfl
  simp only [Act.put, List.setIfInBounds_toArray, List.set_cons_zero, List.set_cons_succ]
  refine hTake (i := 1) (v := ?_) rfl (by kernel_rfl) (by kernel_rfl) (by kernel_rfl) (by rfl) ?_ hH ?_
  rotate_left
  · intro W hW; (try dsimp only at hW); go_simp <;> with_reducible rfl
  simp only [Act.put, List.setIfInBounds_toArray, List.set_cons_zero, List.set_cons_succ]
  refine hTake (i := 2) (v := ?_) rfl (by kernel_rfl) (by kernel_rfl) (by kernel_rfl) (by rfl) ?_ hH ?_
  rotate_left
  · intro W hW; (try dsimp only at hW); go_simp <;> with_reducible rfl
  simp only [Act.put, List.setIfInBounds_toArray, List.set_cons_zero, List.set_cons_succ]
  refine hTake (i := 3) (v := ?_) rfl (by kernel_rfl) (by kernel_rfl) (by kernel_rfl) (by rfl) ?_ hH ?_
  rotate_left
  · intro W hW; (try dsimp only at hW); go_simp <;> with_reducible rfl
  simp only [Act.put, List.setIfInBounds_toArray, List.set_cons_zero, List.set_cons_succ]
  refine hTake (i := 5) (v := ?_) rfl (by kernel_rfl) (by kernel_rfl) (by kernel_rfl) (by rfl) ?_ hH ?_
  rotate_left
  · intro W hW; (try dsimp only at hW); go_simp <;> with_reducible rfl
  simp only [Act.put, List.setIfInBounds_toArray, List.set_cons_zero, List.set_cons_succ]
  refine hTake (i := 6) (v := ?_) rfl (by kernel_rfl) (by kernel_rfl) (by kernel_rfl) (by rfl) ?_ hH ?_
  rotate_left
  · intro W hW; (try dsimp only at hW); go_simp <;> with_reducible rfl
  simp only [Act.put, List.setIfInBounds_toArray, List.set_cons_zero, List.set_cons_succ]
  refine hTake (i := 7) (v := ?_) rfl (by kernel_rfl) (by kernel_rfl) (by kernel_rfl) (by rfl) ?_ hH ?_
  rotate_left
  · intro W hW; (try dsimp only at hW); go_simp <;> with_reducible rfl
  simp only [Act.put, List.setIfInBounds_toArray, List.set_cons_zero, List.set_cons_succ]
  refine hTake (i := 8) (v := ?_) rfl (by kernel_rfl) (by kernel_rfl) (by kernel_rfl) (by rfl) ?_ hH ?_
  rotate_left
  · intro W hW; (try dsimp only at hW); go_simp <;> with_reducible rfl
  simp only [Act.put, List.setIfInBounds_toArray, List.set_cons_zero, List.set_cons_succ]
  refine wpAnyH_ready (rs := [4]) (by kernel_rfl) (by simp) ?_
  refine AllReadyH.cons rfl (fun K hK => ?_) AllReadyH.nil
  go_simp
  refine (I0 _).mono ?_
  rintro e w' ⟨rfl, rfl⟩
  refine hK.out _ _ ?_ (fun hH => ?_)
  · exact hH
  clear hK K
  refine wpAnyH_ready (rs := [9]) (by kernel_rfl) (by simp) ?_
  refine AllReadyH.cons rfl (fun K hK => ?_) AllReadyH.nil
  go_simp
  refine (I1 _).mono ?_
  rintro e w' ⟨rfl, rfl⟩
  refine hK.out _ _ ?_ (fun hH => ?_)
  · exact hH
  clear hK K
  refine wpAnyH_ready (rs := [10]) (by kernel_rfl) (by simp) ?_
  refine AllReadyH.cons rfl (fun K hK => ?_) AllReadyH.nil
  go_simp
  refine hK.out _ _ ?_ (fun hH => ?_)
  · exact ⟨keep_cell kQ hH.1, keep_cell kQ hH.2.1, keep_cell kQ hH.2.2.1, keep_cell kQ hH.2.2.2⟩
  clear hK K
  refine wpAnyH_ready (rs := [11]) (by kernel_rfl) (by simp) ?_
  refine AllReadyH.cons rfl (fun K hK => ?_) AllReadyH.nil
  obtain ⟨s0, s1⟩ := drew_row2 ((W.alloc (.cells #[.int .i64 x0, .int .i64 x1] 33)).alloc (.cells #[.int .i64 y0, .int .i64 y1] 33)) (.int .i64 c0) (.int .i64 c1) 3 (W.heap.size + 2) (by simp)
  go_simp
  refine (IO _ _ s0 s1).mono ?_
  rintro e w' ⟨rfl, rfl⟩
  refine hK.out _ _ ?_ (fun hH => ?_)
  · exact hH
  clear hK K
  refine hTake (i := 12) (v := ?_) rfl (by kernel_rfl) (by kernel_rfl) (by kernel_rfl) (by rfl) ?_ hH ?_
  rotate_left
  · intro W hW; (try dsimp only at hW); go_simp <;> with_reducible rfl
  simp only [Act.put, List.setIfInBounds_toArray, List.set_cons_zero, List.set_cons_succ]
  refine wpAnyH_done (by kernel_rfl) ?_ _
  refine NoPanic.normal ?_
  go_wp2
  go_ret
  refine ⟨rfl, 1, #[.cells #[.int .i64 x0, .int .i64 x1] 33] ++ #[.cells #[.int .i64 y0, .int .i64 y1] 33] ++ #[.cells #[.int .i64 c0, .int .i64 c1] 3], ?_⟩
  simp only [alloc_eq_grow, drew_grow, grow_grow]
  rfl
theorem cmpLaysE (blk off size : Nat) (w : World) : CmpLays Try.prog 32 #[] encE 2 cfE blk off size w :=
  fun _ _ _ _ x y => cmpE_any x y _
end Go.Proofs.Ytmolddlmjojceaa
