
/- Leaves and a key drawn. -/
import Derived.Test.YthfanfnbjldddaaDrawW
namespace Go.Proofs.Ythfanfnbjldddaa
open Go.RowKit

theorem Ch.getD_memX (ls : List (List Ch.Row)) (k : Nat) (h : k < ls.length) : ls.getD k [] ∈ ls := by
  simp [List.getD, List.getElem?_eq_getElem h]

set_option maxRecDepth 100000 in
set_option maxHeartbeats 4000000 in
theorem l3With_any (a : Option Addr) (n cap : Nat) (zs : List Int) (w : World) (h : CellsAt w a n (bts zs)) (hb : IsB zs) (hn : n ≤ 1048576) :
    Calls Try.prog 54 #[.slice a n cap] w fun e w' => ∃ ls a' m c' at_, Ch.bentLv ls ∧ e = .returned (.tuple #[.slice a' m c', .int .i64 at_]) ∧ OwnLv w' w.heap.size (.slice a' m c') m ls ∧ Below w.heap.size w w' := by
  go_enter Try.func54, Try.ntmps54
  go_wp2_with fail
  refine (source_any a n cap zs w h).mono ?_
  rintro e w1 ⟨rfl, S1, b1⟩
  have hz1 := S1.lt
  go_wp2_with fail
  refine (l3Bent_any w.heap.size a n cap 0 zs w1 S1 hb (by omega) (by omega)).mono ?_
  rintro e w2 ⟨ls, a2, m, c2, k2, hbe, rfl, o2, hk2, S2, G2⟩
  have hm : m ≤ 70 := by have := o2.1; have := hbe.2.1; omega
  have h5 : ∀ i, (ls.getD i []).length ≤ 5 := fun i => by
    by_cases hi : i < ls.length
    · exact hbe.2.2 _ (Ch.getD_memX ls i hi)
    · simp [List.getD, List.getElem?_eq_none (show ls.length ≤ i by omega)]
  have hsa : ∀ i, (ls.getD i []).length ≤ 9223372036854775807 := fun i => by have := h5 i; omega
  have hz2 := G2.size
  have hlo : ∀ b off, a2 = some ⟨b, off, none⟩ → 0 < m → w.heap.size < b := fun b off hab hp => by
    subst hab
    obtain ⟨_, vs, ho, _⟩ := o2
    rcases ho.2 with ⟨hv, _⟩ | ⟨g, cp, cur, hv, _⟩
    · simp at hv
    · have := owns_lt ho g (by rw [hv]; rfl)
      simp only [Value.slice.injEq, Option.some.injEq, Addr.mk.injEq] at hv
      omega
  go_wp2_with fail
  refine (next_any 20 w.heap.size a n cap k2 zs _ S2 hb (by omega) (by omega) (by omega) (by omega)).mono ?_
  rintro e w3 ⟨⟨kk, _, _, rfl⟩, S3, G3⟩
  have O3 := o2.grown G3 hz1
  have o3 := O3.at hsa
  by_cases hm0 : m = 0
  · subst hm0
    have hzX := (G3).size
    go_wp2_with fail
    refine (pick_any w3.heap.size 6 [kk, kk, kk, 99, 100, -1] w.heap.size a n cap (k2 + 1) zs _ (S3).new hb (by omega) (by omega) (heap_alloc_new w3 _) (by omega) rfl (by omega) (by omega)).mono ?_
    rintro e w9 ⟨⟨v9, _, rfl⟩, S9, G9⟩
    have G29 := gr_trans (G3) (gr_alloc G9)
    go_wp2
    exact bodyPost_ret (v := .tuple #[.slice (a2) (0) c2, .int .i64 v9]) (by simp [results, Try.results54, go_sem]) rfl ⟨ls, a2, 0, c2, v9, hbe, rfl, (o2.grown G29 hz1).base (by omega), b1.trans (below_gr (gr_trans G2 G29) (Nat.le_refl _) (by omega))⟩
  obtain ⟨p, rfl⟩ : ∃ p, m = p + 1 := ⟨m - 1, by omega⟩
  have hw1 : IntKind.i64.wrap (((p + 1 : Nat) : Int) - 1) = (p : Int) := by rw [show ((p + 1 : Nat) : Int) - 1 = (p : Int) by omega]; exact IntWalk.i64_in _ ⟨by omega, by omega⟩
  have hw2 : ((p + 1 : Nat) : Int) - 1 = (p : Int) := by omega
  obtain ⟨b2, q2, ai, ni, ci, rfl, hc, hr, hni⟩ := o3.leaf (k := p) (by omega)
  have hb2 := hlo b2 q2 rfl (by omega)
  have hpi : (p : Int) < ((p + 1 : Nat) : Int) := by omega
  by_cases hn0 : ni = 0
  · subst hn0
    have hzX := (G3).size
    go_wp2_with fail
    refine (pick_any w3.heap.size 6 [kk, kk, kk, 99, 100, -1] w.heap.size a n cap (k2 + 1) zs _ (S3).new hb (by omega) (by omega) (heap_alloc_new w3 _) (by omega) rfl (by omega) (by omega)).mono ?_
    rintro e w9 ⟨⟨v9, _, rfl⟩, S9, G9⟩
    have G29 := gr_trans (G3) (gr_alloc G9)
    go_wp2
    exact bodyPost_ret (v := .tuple #[.slice (some ⟨b2, q2, none⟩) (p + 1) c2, .int .i64 v9]) (by simp [results, Try.results54, go_sem]) rfl ⟨ls, some ⟨b2, q2, none⟩, p + 1, c2, v9, hbe, rfl, (o2.grown G29 hz1).base (by omega), b1.trans (below_gr (gr_trans G2 G29) (Nat.le_refl _) (by omega))⟩
  have hn1 : (0 : Int) < (ni : Int) := by omega
  go_wp2_with fail
  refine (chance_any 2 w.heap.size a n cap (k2 + 1) zs _ S3 hb (by omega) (by omega) (by omega) (by omega)).mono ?_
  rintro e w4 ⟨⟨cb, rfl⟩, S4, G4⟩
  have G34 := gr_trans G3 G4
  clear hc hr o3
  cases cb
  · skip
    have hzX := (G34).size
    go_wp2_with fail
    refine (pick_any w4.heap.size 6 [kk, kk, kk, 99, 100, -1] w.heap.size a n cap (k2 + 1 + 1) zs _ (S4).new hb (by omega) (by omega) (heap_alloc_new w4 _) (by omega) rfl (by omega) (by omega)).mono ?_
    rintro e w9 ⟨⟨v9, _, rfl⟩, S9, G9⟩
    have G29 := gr_trans (G34) (gr_alloc G9)
    go_wp2
    exact bodyPost_ret (v := .tuple #[.slice (some ⟨b2, q2, none⟩) (p + 1) c2, .int .i64 v9]) (by simp [results, Try.results54, go_sem]) rfl ⟨ls, some ⟨b2, q2, none⟩, p + 1, c2, v9, hbe, rfl, (o2.grown G29 hz1).base (by omega), b1.trans (below_gr (gr_trans G2 G29) (Nat.le_refl _) (by omega))⟩
  go_wp2_with fail
  refine (next_any ((p + 1 : Nat) : Int) w.heap.size a n cap (k2 + 1 + 1) zs _ S4 hb (by omega) (by omega) (by omega) (by omega)).mono ?_
  rintro e w5 ⟨⟨v5, v50, v51, rfl⟩, S5, G5⟩
  have G35 := gr_trans G34 G5
  obtain ⟨i, rfl⟩ : ∃ i : Nat, v5 = (i : Int) := ⟨v5.toNat, by omega⟩
  have hip : i < p + 1 := by omega
  obtain ⟨vs5, V5⟩ := (o2.grown G35 hz1).told
  obtain ⟨b5, ai5, d2, hbq, _, g5, _, ow5, _⟩ := V5.leafAt hip
  simp only [Option.some.injEq, Addr.mk.injEq, and_true] at hbq
  obtain ⟨rfl, rfl⟩ := hbq
  have hr5 := owns_cells ow5
  have hn25 := h5 i
  have k5 := owns_lt ow5
  generalize ls.getD i [] = l5 at *
  generalize hl5 : l5.length = n2 at *
  have hipi : (i : Int) < (p : Int) + 1 := by omega
  clear V5
  by_cases hz0 : n2 = 0
  · subst hz0
    have hzX := (G35).size
    go_wp2_with fail
    refine (pick_any w5.heap.size 6 [kk, kk, kk, 99, 100, -1] w.heap.size a n cap (k2 + 1 + 1 + 1) zs _ (S5).new hb (by omega) (by omega) (heap_alloc_new w5 _) (by omega) rfl (by omega) (by omega)).mono ?_
    rintro e w9 ⟨⟨v9, _, rfl⟩, S9, G9⟩
    have G29 := gr_trans (G35) (gr_alloc G9)
    go_wp2
    exact bodyPost_ret (v := .tuple #[.slice (some ⟨b2, 0, none⟩) (p + 1) c2, .int .i64 v9]) (by simp [results, Try.results54, go_sem]) rfl ⟨ls, some ⟨b2, 0, none⟩, p + 1, c2, v9, hbe, rfl, (o2.grown G29 hz1).base (by omega), b1.trans (below_gr (gr_trans G2 G29) (Nat.le_refl _) (by omega))⟩
  have hn21 : (0 : Int) < (n2 : Int) := by omega
  obtain ⟨r2, s2, rfl, _⟩ := hr5.row (k := 0) (by omega)
  have hr2 : w.heap.size ≠ r2 := by
    rcases ow5.2 with ⟨_, h00⟩ | ⟨g, cp, cur, hv, _⟩
    · omega
    · have := k5 g (by rw [hv]; rfl)
      simp only [Value.slice.injEq, Option.some.injEq, Addr.mk.injEq] at hv
      omega
  go_wp2
  refine wp_region_noPanic ?_
  refine wp_region_held_drew (S := fun W' => W'.cell? ⟨b2, i, none⟩ = some (.slice (some ⟨r2, s2, none⟩) n2 d2) ∧ (∀ j, j < n2 → ∃ kj, W'.cell? ⟨r2, s2 + j * 3, none⟩ = some (.int .i64 kj))) (by kernel_rfl) (⟨g5, fun j hj => by obtain ⟨_, _, hx, y0, _⟩ := hr5.row hj; cases hx; exact ⟨_, y0⟩⟩) (fun hH => ?_)
  refine hTake (i := 0) (v := ?_) rfl (by kernel_rfl) (by kernel_rfl) (by kernel_rfl) (by rfl) ?_ hH ?_
  rotate_left
  · intro W hW; (try dsimp only at hW); go_simp <;> with_reducible rfl
  simp only [Act.put, List.setIfInBounds_toArray, List.set_cons_zero, List.set_cons_succ]
  refine hTake (i := 1) (v := ?_) rfl (by kernel_rfl) (by kernel_rfl) (by kernel_rfl) (by rfl) ?_ hH ?_
  rotate_left
  · intro W hW; (try dsimp only at hW); go_simp <;> with_reducible rfl
  simp only [Act.put, List.setIfInBounds_toArray, List.set_cons_zero, List.set_cons_succ]
  refine hTake (i := 2) (v := ?_) rfl (by kernel_rfl) (by kernel_rfl) (by kernel_rfl) (by rfl) ?_ hH ?_
  rotate_left
  · intro W hW; (try dsimp only at hW); go_simp <;> with_reducible rfl
  simp only [Act.put, List.setIfInBounds_toArray, List.set_cons_zero, List.set_cons_succ]
  refine hTake (i := 3) (v := ?_) rfl (by kernel_rfl) (by kernel_rfl) (by kernel_rfl) (by rfl) ?_ hH ?_
  rotate_left
  · intro W hW; (try dsimp only at hW); go_simp <;> with_reducible rfl
  simp only [Act.put, List.setIfInBounds_toArray, List.set_cons_zero, List.set_cons_succ]
  refine hTake (i := 4) (v := ?_) rfl (by kernel_rfl) (by kernel_rfl) (by kernel_rfl) (by rfl) ?_ hH ?_
  rotate_left
  · intro W hW; (try dsimp only at hW); go_simp <;> with_reducible rfl
  simp only [Act.put, List.setIfInBounds_toArray, List.set_cons_zero, List.set_cons_succ]
  refine hTake (i := 5) (v := ?_) rfl (by kernel_rfl) (by kernel_rfl) (by kernel_rfl) (by rfl) ?_ hH ?_
  rotate_left
  · intro W hW; (try dsimp only at hW); go_simp <;> with_reducible rfl
  simp only [Act.put, List.setIfInBounds_toArray, List.set_cons_zero, List.set_cons_succ]
  refine hTake (i := 6) (v := ?_) rfl (by kernel_rfl) (by kernel_rfl) (by kernel_rfl) (by rfl) ?_ hH ?_
  rotate_left
  · intro W hW; (try dsimp only at hW); go_simp <;> with_reducible rfl
  simp only [Act.put, List.setIfInBounds_toArray, List.set_cons_zero, List.set_cons_succ]
  refine hTake (i := 7) (v := ?_) rfl (by kernel_rfl) (by kernel_rfl) (by kernel_rfl) (by rfl) ?_ hH ?_
  rotate_left
  · intro W hW; (try dsimp only at hW); go_simp <;> with_reducible rfl
  simp only [Act.put, List.setIfInBounds_toArray, List.set_cons_zero, List.set_cons_succ]
  refine hTake (i := 8) (v := ?_) rfl (by kernel_rfl) (by kernel_rfl) (by kernel_rfl) (by rfl) ?_ hH ?_
  rotate_left
  · intro W hW; (try dsimp only at hW); go_simp <;> with_reducible rfl
  simp only [Act.put, List.setIfInBounds_toArray, List.set_cons_zero, List.set_cons_succ]
  refine hTake (i := 9) (v := ?_) rfl (by kernel_rfl) (by kernel_rfl) (by kernel_rfl) (by rfl) ?_ hH ?_
  rotate_left
  · intro W hW; (try dsimp only at hW); go_simp <;> with_reducible rfl
  simp only [Act.put, List.setIfInBounds_toArray, List.set_cons_zero, List.set_cons_succ]
  refine hTake (i := 10) (v := ?_) rfl (by kernel_rfl) (by kernel_rfl) (by kernel_rfl) (by rfl) ?_ hH ?_
  rotate_left
  · intro W hW; (try dsimp only at hW); go_simp <;> with_reducible rfl
  simp only [Act.put, List.setIfInBounds_toArray, List.set_cons_zero, List.set_cons_succ]
  refine hTake (i := 11) (v := ?_) rfl (by kernel_rfl) (by kernel_rfl) (by kernel_rfl) (by rfl) ?_ hH ?_
  rotate_left
  · intro W hW; (try dsimp only at hW); go_simp <;> with_reducible rfl
  simp only [Act.put, List.setIfInBounds_toArray, List.set_cons_zero, List.set_cons_succ]
  refine wpAnyH_ready (rs := [12]) (by kernel_rfl) (by simp) ?_
  refine AllReadyH.cons rfl (fun K hK => ?_) AllReadyH.nil
  go_simp
  refine (next_any (n2 : Int) w.heap.size a n cap (k2 + 1 + 1 + 1) zs w5.drew ⟨S5.box, S5.far, S5.bytes⟩ hb (by omega) (by omega) (by omega) (by omega)).mono ?_
  rintro e w7 ⟨⟨v7, v70, v71, rfl⟩, S7, G7⟩
  have G7 : w5.grownBy w7 (some w.heap.size) := ⟨G7.os, G7.tape, G7.output, G7.size, G7.block⟩
  obtain ⟨j, rfl⟩ : ∃ j : Nat, v7 = (j : Int) := ⟨v7.toNat, by omega⟩
  have hj : j < n2 := by omega
  go_wp2_with fail
  refine hK.out _ _ ?_ (fun hH => ?_)
  · exact ⟨grown_cell G7 hH.1 (by simp; omega), fun j hj => by obtain ⟨kj, hkj⟩ := hH.2 j hj; exact ⟨kj, grown_cell G7 hkj (by simp; omega)⟩⟩
  clear hK K
  refine hTake (i := 13) (v := ?_) rfl (by kernel_rfl) (by kernel_rfl) (by kernel_rfl) (by rfl) ?_ hH ?_
  rotate_left
  · intro W hW; (try dsimp only at hW); go_simp <;> with_reducible rfl
  simp only [Act.put, List.setIfInBounds_toArray, List.set_cons_zero, List.set_cons_succ]
  refine hTake (i := 14) (v := ?_) rfl (by kernel_rfl) (by kernel_rfl) (by kernel_rfl) (by rfl) ?_ hH ?_
  rotate_left
  · intro W hW; (try dsimp only at hW); go_simp <;> with_reducible rfl
  simp only [Act.put, List.setIfInBounds_toArray, List.set_cons_zero, List.set_cons_succ]
  obtain ⟨kj, hkj⟩ := hH.2 j hj
  refine wpAnyH_ready (rs := [15]) (by kernel_rfl) (by simp) ?_
  refine AllReadyH.cons rfl (fun K hK => ?_) AllReadyH.nil
  go_simp
  refine hK.out _ _ ?_ (fun hH => ?_)
  · exact hH
  clear hK K
  refine hTake (i := 16) (v := ?_) rfl (by kernel_rfl) (by kernel_rfl) (by kernel_rfl) (by rfl) ?_ hH ?_
  rotate_left
  · intro W hW; (try dsimp only at hW); go_simp <;> with_reducible rfl
  simp only [Act.put, List.setIfInBounds_toArray, List.set_cons_zero, List.set_cons_succ]
  refine wpAnyH_done (by kernel_rfl) ?_ _
  refine NoPanic.normal ?_
  clear hH
  have G37 := gr_trans G35 G7
  have hzX := (G37).size
  go_wp2_with fail
  refine (pick_any w7.heap.size 6 [kj, kj, kj, 99, 100, -1] w.heap.size a n cap (k2 + 1 + 1 + 1 + 1) zs _ (S7).new hb (by omega) (by omega) (heap_alloc_new w7 _) (by omega) rfl (by omega) (by omega)).mono ?_
  rintro e w9 ⟨⟨v9, _, rfl⟩, S9, G9⟩
  have G29 := gr_trans (G37) (gr_alloc G9)
  go_wp2
  exact bodyPost_ret (v := .tuple #[.slice (some ⟨b2, 0, none⟩) (p + 1) c2, .int .i64 v9]) (by simp [results, Try.results54, go_sem]) rfl ⟨ls, some ⟨b2, 0, none⟩, p + 1, c2, v9, hbe, rfl, (o2.grown G29 hz1).base (by omega), b1.trans (below_gr (gr_trans G2 G29) (Nat.le_refl _) (by omega))⟩
end Go.Proofs.Ythfanfnbjldddaa
