/- l6Behind. -/
import Derived.Test.YteblnejpohjjmaaAskF
namespace Go.Proofs.Yteblnejpohjjmaa
open Go.RowKit

set_option linter.unusedSimpArgs false in
set_option maxRecDepth 20000 in
set_option maxHeartbeats 1000000 in
theorem l6Behind_any (t m : Int) (B o p : Nat) (ah : Option Addr) (nh ch : Nat) (aq : Option Addr) (nq cq : Nat) (hs qs : List Ch.Hold) (w : World) (c1 : w.cell? ⟨o, p * 3 + 1, none⟩ = some (.slice ah nh ch)) (c2 : w.cell? ⟨o, p * 3 + 2, none⟩ = some (.slice aq nq cq)) (h3 : CellsAt w ah (nh * 2) (hcells hs)) (hown : w.ownsRow B 110 2 (.slice aq nq cq) nq (hcells qs)) (hn : nh ≤ 1048576) (hq : nq ≤ 1048576) :
    Calls Try.prog 95 #[.pointer (some ⟨o, p * 3, none⟩), .agg #[.int .i64 t, .int .i64 m]] w fun e w' => ∃ a' c', e = .returned (.slice a' (nq + 1) c') ∧ w'.ownsRow w.heap.size 110 2 (.slice a' (nq + 1) c') (nq + 1) (hcells (qs.take (Ch.convH hs qs) ++ [⟨t, m⟩] ++ qs.drop (Ch.convH hs qs))) ∧ Below w.heap.size w w' := by
  have h4 := owns_cells hown
  have HQ := h4.hlen
  have HCap := hid (owns_cap hown)
  have HOW := hid hown.2
  have lo := lt_of_cell c2
  obtain ⟨j0, gi0, gz0, gz1, gz2⟩ := info_parts Try.info110
  have kA : Below w.heap.size w (w.alloc (.cells #[.int .i64 t, .int .i64 m] 110)) := (Below.refl _ _).alloc (Nat.le_refl _) _
  have y0 : (w.alloc (.cells #[.int .i64 t, .int .i64 m] 110)).cell? ⟨w.heap.size, 0, none⟩ = some (.int .i64 t) := by simp [go_sem]
  have y1 : (w.alloc (.cells #[.int .i64 t, .int .i64 m] 110)).cell? ⟨w.heap.size, 1, none⟩ = some (.int .i64 m) := by simp [go_sem]
  have yl : w.heap.size < (w.alloc (.cells #[.int .i64 t, .int .i64 m] 110)).heap.size := lt_of_cell y0
  clear hown
  go_enter Try.func95, Try.ntmps95
  go_wp2
  go_loopw [5] (fun i wr => ∃ k : Nat, k ≤ nq ∧ i = .int .i64 k ∧ Hid (∀ j, j < k → Ch.hasH hs (qs.getD j Ch.Hold.zero).t = true) ∧ wr.cell? ⟨w.heap.size, 0, none⟩ = some (.int .i64 t) ∧ wr.cell? ⟨w.heap.size, 1, none⟩ = some (.int .i64 m) ∧ w.heap.size < wr.heap.size ∧ Below w.heap.size w wr) (fun i _ => nq - (intOf i).toNat)
  case atStart => exact ⟨0, Nat.zero_le _, rfl, (fun j hj => by omega), y0, y1, yl, kA⟩
  case round =>
    clear y0 y1 yl kA
    obtain ⟨k, hk, rfl, HA, z0, z1, ll, hB⟩ := hrel
    have x1 := keep_cell hB c1
    have x2 := keep_cell hB c2
    by_cases hlt : k < nq
    · have hkl : k < qs.length := by have := HQ.out; omega
      have HS := hid (fun he => Ch.step_all (p := fun j => Ch.hasH hs (qs.getD j Ch.Hold.zero).t) HA.out he)
      have HE := hid (fun he => Ch.conv_is (hs := hs) (qs := qs) (k := k) (by have := HQ.out; omega) HA.out (fun _ => he))
      obtain ⟨g, rfl⟩ : ∃ g, aq = some ⟨g, 0, none⟩ := by
        rcases HOW.out with ⟨hv, h0⟩ | ⟨g, cp, cur, hv, _⟩
        · omega
        · simp only [Value.slice.injEq, true_and] at hv
          exact ⟨g, hv.1⟩
      obtain ⟨qb, qo, hqq, q0, _⟩ := (h4.below hB).hold hlt
      simp only [Option.some.injEq, Addr.mk.injEq, and_true] at hqq
      obtain ⟨rfl, rfl⟩ := hqq
      rw [Nat.zero_add] at q0
      have hqb := lt_of_cell q0
      generalize (qs.getD k Ch.Hold.zero).t = rt at *
      clear HOW
      rcases Ch.atH_cases hs rt with ⟨he, HAT, _⟩ | ⟨j, hj, HAT, he, _⟩
      · have HAT := hid HAT
        have HCV := hid (HE.out he)
        clear he HE HS
        have hcap := HCap.out
        have hck : ¬ cq = k := by omega
        have h1a : ∀ u ∈ (hcells qs).take (k * 2), u.oneCell' = true := fun u hu => hcells_one' qs u (List.mem_of_mem_take hu)
        have h1b : ∀ u ∈ (hcells qs).drop (k * 2), u.oneCell' = true := fun u hu => hcells_one' qs u (List.mem_of_mem_drop hu)
        go_wp2_with fail
        refine wp_region_noPanic ?_
        refine wp_region_held_drew (S := fun W' => W'.cell? ⟨o, p * 3 + 1, none⟩ = some (.slice ah nh ch) ∧ W'.cell? ⟨o, p * 3 + 2, none⟩ = some (.slice (some ⟨g, 0, none⟩) nq cq) ∧ W'.cell? ⟨g, k * 2, none⟩ = some (.int .i64 rt) ∧ W'.cell? ⟨w.heap.size, 0, none⟩ = some (.int .i64 t) ∧ W'.cell? ⟨w.heap.size, 1, none⟩ = some (.int .i64 m) ∧ w.heap.size < W'.heap.size ∧ Below w.heap.size w W') (by kernel_rfl) (⟨x1, x2, q0, z0, z1, ll, hB.drew⟩) (fun hH => ?_)
        refine hTake (i := 0) (v := ?_) rfl (by kernel_rfl) (by kernel_rfl) (by kernel_rfl) (by rfl) ?_ hH ?_
        rotate_left
        · intro W hW; (try dsimp only at hW); go_simp <;> with_reducible rfl
        simp only [Act.put, List.setIfInBounds_toArray, List.set_cons_zero, List.set_cons_succ]
        refine hTake (i := 1) (v := ?_) rfl (by kernel_rfl) (by kernel_rfl) (by kernel_rfl) (by rfl) ?_ hH ?_
        rotate_left
        · intro W hW; (try dsimp only at hW); go_simp <;> with_reducible rfl
        simp only [Act.put, List.setIfInBounds_toArray, List.set_cons_zero, List.set_cons_succ]
        refine hTake (i := 2) (v := ?_) rfl (by kernel_rfl) (by kernel_rfl) (by kernel_rfl) (by rfl) ?_ hH ?_
        rotate_left
        · intro W hW; (try dsimp only at hW); go_simp <;> with_reducible rfl
        simp only [Act.put, List.setIfInBounds_toArray, List.set_cons_zero, List.set_cons_succ]
        refine hTake (i := 3) (v := ?_) rfl (by kernel_rfl) (by kernel_rfl) (by kernel_rfl) (by rfl) ?_ hH ?_
        rotate_left
        · intro W hW; (try dsimp only at hW); go_simp <;> with_reducible rfl
        simp only [Act.put, List.setIfInBounds_toArray, List.set_cons_zero, List.set_cons_succ]
        refine hTake (i := 4) (v := ?_) rfl (by kernel_rfl) (by kernel_rfl) (by kernel_rfl) (by rfl) ?_ hH ?_
        rotate_left
        · intro W hW; (try dsimp only at hW); go_simp <;> with_reducible rfl
        simp only [Act.put, List.setIfInBounds_toArray, List.set_cons_zero, List.set_cons_succ]
        refine hTake (i := 5) (v := ?_) rfl (by kernel_rfl) (by kernel_rfl) (by kernel_rfl) (by rfl) ?_ hH ?_
        rotate_left
        · intro W hW; (try dsimp only at hW); go_simp <;> with_reducible rfl
        simp only [Act.put, List.setIfInBounds_toArray, List.set_cons_zero, List.set_cons_succ]
        refine hTake (i := 6) (v := ?_) rfl (by kernel_rfl) (by kernel_rfl) (by kernel_rfl) (by rfl) ?_ hH ?_
        rotate_left
        · intro W hW; (try dsimp only at hW); go_simp <;> with_reducible rfl
        simp only [Act.put, List.setIfInBounds_toArray, List.set_cons_zero, List.set_cons_succ]
        refine hTake (i := 7) (v := ?_) rfl (by kernel_rfl) (by kernel_rfl) (by kernel_rfl) (by rfl) ?_ hH ?_
        rotate_left
        · intro W hW; (try dsimp only at hW); go_simp <;> with_reducible rfl
        simp only [Act.put, List.setIfInBounds_toArray, List.set_cons_zero, List.set_cons_succ]
        refine hTake (i := 8) (v := ?_) rfl (by kernel_rfl) (by kernel_rfl) (by kernel_rfl) (by rfl) ?_ hH ?_
        rotate_left
        · intro W hW; (try dsimp only at hW); go_simp <;> with_reducible rfl
        simp only [Act.put, List.setIfInBounds_toArray, List.set_cons_zero, List.set_cons_succ]
        refine hTake (i := 9) (v := ?_) rfl (by kernel_rfl) (by kernel_rfl) (by kernel_rfl) (by rfl) ?_ hH ?_
        rotate_left
        · intro W hW; (try dsimp only at hW); go_simp <;> with_reducible rfl
        simp only [Act.put, List.setIfInBounds_toArray, List.set_cons_zero, List.set_cons_succ]
        refine hTake (i := 10) (v := ?_) rfl (by kernel_rfl) (by kernel_rfl) (by kernel_rfl) (by rfl) ?_ hH ?_
        rotate_left
        · intro W hW; (try dsimp only at hW); go_simp <;> with_reducible rfl
        simp only [Act.put, List.setIfInBounds_toArray, List.set_cons_zero, List.set_cons_succ]
        refine hTake (i := 11) (v := ?_) rfl (by kernel_rfl) (by kernel_rfl) (by kernel_rfl) (by rfl) ?_ hH ?_
        rotate_left
        · intro W hW; (try dsimp only at hW); go_simp <;> with_reducible rfl
        simp only [Act.put, List.setIfInBounds_toArray, List.set_cons_zero, List.set_cons_succ]
        refine hTake (i := 12) (v := ?_) rfl (by kernel_rfl) (by kernel_rfl) (by kernel_rfl) (by rfl) ?_ hH ?_
        rotate_left
        · intro W hW; (try dsimp only at hW); go_simp <;> with_reducible rfl
        simp only [Act.put, List.setIfInBounds_toArray, List.set_cons_zero, List.set_cons_succ]
        refine hTake (i := 13) (v := ?_) rfl (by kernel_rfl) (by kernel_rfl) (by kernel_rfl) (by rfl) ?_ hH ?_
        rotate_left
        · intro W hW; (try dsimp only at hW); go_simp <;> with_reducible rfl
        simp only [Act.put, List.setIfInBounds_toArray, List.set_cons_zero, List.set_cons_succ]
        refine hTake (i := 14) (v := ?_) rfl (by kernel_rfl) (by kernel_rfl) (by kernel_rfl) (by rfl) ?_ hH ?_
        rotate_left
        · intro W hW; (try dsimp only at hW); go_simp <;> with_reducible rfl
        simp only [Act.put, List.setIfInBounds_toArray, List.set_cons_zero, List.set_cons_succ]
        refine hTake (i := 15) (v := ?_) rfl (by kernel_rfl) (by kernel_rfl) (by kernel_rfl) (by rfl) ?_ hH ?_
        rotate_left
        · intro W hW; (try dsimp only at hW); go_simp <;> with_reducible rfl
        simp only [Act.put, List.setIfInBounds_toArray, List.set_cons_zero, List.set_cons_succ]
        refine hTake (i := 16) (v := ?_) rfl (by kernel_rfl) (by kernel_rfl) (by kernel_rfl) (by rfl) ?_ hH ?_
        rotate_left
        · intro W hW; (try dsimp only at hW); go_simp <;> with_reducible rfl
        simp only [Act.put, List.setIfInBounds_toArray, List.set_cons_zero, List.set_cons_succ]
        refine hTake (i := 17) (v := ?_) rfl (by kernel_rfl) (by kernel_rfl) (by kernel_rfl) (by rfl) ?_ hH ?_
        rotate_left
        · intro W hW; (try dsimp only at hW); go_simp <;> with_reducible rfl
        simp only [Act.put, List.setIfInBounds_toArray, List.set_cons_zero, List.set_cons_succ]
        refine hTake (i := 18) (v := ?_) rfl (by kernel_rfl) (by kernel_rfl) (by kernel_rfl) (by rfl) ?_ hH ?_
        rotate_left
        · intro W hW; (try dsimp only at hW); go_simp <;> with_reducible rfl
        simp only [Act.put, List.setIfInBounds_toArray, List.set_cons_zero, List.set_cons_succ]
        refine hTake (i := 19) (v := ?_) rfl (by kernel_rfl) (by kernel_rfl) (by kernel_rfl) (by rfl) ?_ hH ?_
        rotate_left
        · intro W hW; (try dsimp only at hW); go_simp <;> with_reducible rfl
        simp only [Act.put, List.setIfInBounds_toArray, List.set_cons_zero, List.set_cons_succ]
        refine wpAnyH_ready (rs := [20]) (by kernel_rfl) (by simp) ?_
        refine AllReadyH.cons rfl (fun K hK => ?_) AllReadyH.nil
        go_simp
        refine (l6At_any ah nh ch rt hs _ (h3.below hH.2.2.2.2.2.2) hn).mono ?_
        rintro e w2 ⟨rfl, rfl⟩
        rw [HAT.out]
        go_wp2_with fail
        refine hK.out _ _ ?_ (fun hH => ?_)
        · exact hH
        clear hK K
        refine hTake (i := 21) (v := ?_) rfl (by kernel_rfl) (by kernel_rfl) (by kernel_rfl) (by rfl) ?_ hH ?_
        rotate_left
        · intro W hW; (try dsimp only at hW); go_simp <;> with_reducible rfl
        simp only [Act.put, List.setIfInBounds_toArray, List.set_cons_zero, List.set_cons_succ]
        refine hTake (i := 22) (v := ?_) rfl (by kernel_rfl) (by kernel_rfl) (by kernel_rfl) (by rfl) ?_ hH ?_
        rotate_left
        · intro W hW; (try dsimp only at hW); go_simp <;> with_reducible rfl
        simp only [Act.put, List.setIfInBounds_toArray, List.set_cons_zero, List.set_cons_succ]
        refine wpAnyH_done (by kernel_rfl) ?_ _
        refine NoPanic.normal ?_
        have u2 := hH.2.1
        have z0 := hH.2.2.2.1
        have z1 := hH.2.2.2.2.1
        have lU0 := hH.2.2.2.2.2.1
        have kU0 := hH.2.2.2.2.2.2
        clear hH
        clear x1 x2 hB ll
        generalize wr.drew = U0 at *
        obtain ⟨oE, kE, lE⟩ := alloc_empty U0 110 2
        have e2 := keep_cell kE u2
        have kW1 := kU0.trans (kE.mono (by omega))
        have lW1 : w.heap.size < (U0.alloc (.cells #[] 110)).heap.size := by omega
        have oE := owns_base (base' := w.heap.size + 1) oE (by omega)
        have hC1 := ((cells_take (k := k * 2) h4 (by omega)).below kW1)
        have hs0 : 0 + k ≤ 4194304 := by omega
        have hb0 : w.heap.size + 1 ≤ (U0.alloc (.cells #[] 110)).heap.size := by omega
        go_wp2_with (at_builtin
                     go_must (refine wpList_appX Try.underlying72 Try.underlying72 gi0 gz0 gz1 gz2 rfl (by omega) (by omega) (.tmp 32) (.tmp 38) ?_ ?_ (w.heap.size + 1) (.slice (some ⟨U0.heap.size, 0, none⟩) 0 0) 0 [] (some ⟨g, 0, none⟩) k cq ((hcells qs).take (k * 2)) ?_ ?_ oE hC1 h1a hs0 hb0 ?_; exact rfl; exact rfl; exact rfl; exact rfl; intro a5 c5 w5 own5 gr5 at5)
                     simp only [Nat.zero_add, List.nil_append] at own5 ⊢)
        have k5 : Below w.heap.size w w5 := kW1.grown gr5 kW1.size (fun g hg => by have := (owns_lt oE g hg).1; omega)
        have l5 : w.heap.size < w5.heap.size := Nat.lt_of_lt_of_le lW1 gr5.size
        have hH : w5.cell? ⟨o, p * 3 + 2, none⟩ = some (.slice (some ⟨g, 0, none⟩) nq cq) ∧ w5.cell? ⟨w.heap.size, 0, none⟩ = some (.int .i64 t) ∧ w5.cell? ⟨w.heap.size, 1, none⟩ = some (.int .i64 m) := ⟨grown_cell gr5 e2 (fun e => by have := (owns_lt oE _ e).1; omega), grown_cell gr5 (keep_cell kE z0) (fun e => by have := (owns_lt oE _ e).1; omega), grown_cell gr5 (keep_cell kE z1) (fun e => by have := (owns_lt oE _ e).1; omega)⟩
        clear gr5 at5 oE kE lE hC1 kW1 lW1 e2 u2 z0 z1
        refine wp_region_noPanic ?_
        refine wp_region_held_drew (S := fun W' => W'.cell? ⟨o, p * 3 + 2, none⟩ = some (.slice (some ⟨g, 0, none⟩) nq cq) ∧ W'.cell? ⟨w.heap.size, 0, none⟩ = some (.int .i64 t) ∧ W'.cell? ⟨w.heap.size, 1, none⟩ = some (.int .i64 m)) (by kernel_rfl) (hH) (fun hH => ?_)
        have kX : Below w.heap.size w w5.drew := k5.drew
        have lX : w.heap.size < w5.drew.heap.size := l5
        have own5 := owns_below own5 ((Below.refl _ _).drew : Below w5.heap.size w5 w5.drew)
        generalize w5.drew = X at *
        refine hTake (i := 0) (v := ?_) rfl (by kernel_rfl) (by kernel_rfl) (by kernel_rfl) (by rfl) ?_ hH ?_
        rotate_left
        · intro W hW; (try dsimp only at hW); go_simp <;> with_reducible rfl
        simp only [Act.put, List.setIfInBounds_toArray, List.set_cons_zero, List.set_cons_succ]
        refine hTake (i := 1) (v := ?_) rfl (by kernel_rfl) (by kernel_rfl) (by kernel_rfl) (by rfl) ?_ hH ?_
        rotate_left
        · intro W hW; (try dsimp only at hW); go_simp <;> with_reducible rfl
        simp only [Act.put, List.setIfInBounds_toArray, List.set_cons_zero, List.set_cons_succ]
        refine hTake (i := 4) (v := ?_) rfl (by kernel_rfl) (by kernel_rfl) (by kernel_rfl) (by rfl) ?_ hH ?_
        rotate_left
        · intro W hW; (try dsimp only at hW); go_simp <;> with_reducible rfl
        simp only [Act.put, List.setIfInBounds_toArray, List.set_cons_zero, List.set_cons_succ]
        refine hTake (i := 5) (v := ?_) rfl (by kernel_rfl) (by kernel_rfl) (by kernel_rfl) (by rfl) ?_ hH ?_
        rotate_left
        · intro W hW; (try dsimp only at hW); go_simp <;> with_reducible rfl
        simp only [Act.put, List.setIfInBounds_toArray, List.set_cons_zero, List.set_cons_succ]
        refine hTake (i := 6) (v := ?_) rfl (by kernel_rfl) (by kernel_rfl) (by kernel_rfl) (by rfl) ?_ hH ?_
        rotate_left
        · intro W hW; (try dsimp only at hW); go_simp <;> with_reducible rfl
        simp only [Act.put, List.setIfInBounds_toArray, List.set_cons_zero, List.set_cons_succ]
        refine hTake (i := 7) (v := ?_) rfl (by kernel_rfl) (by kernel_rfl) (by kernel_rfl) (by rfl) ?_ hH ?_
        rotate_left
        · intro W hW; (try dsimp only at hW); go_simp <;> with_reducible rfl
        simp only [Act.put, List.setIfInBounds_toArray, List.set_cons_zero, List.set_cons_succ]
        refine hTake (i := 8) (v := ?_) rfl (by kernel_rfl) (by kernel_rfl) (by kernel_rfl) (by rfl) ?_ hH ?_
        rotate_left
        · intro W hW; (try dsimp only at hW); go_simp <;> with_reducible rfl
        simp only [Act.put, List.setIfInBounds_toArray, List.set_cons_zero, List.set_cons_succ]
        refine hTake (i := 9) (v := ?_) rfl (by kernel_rfl) (by kernel_rfl) (by kernel_rfl) (by rfl) ?_ hH ?_
        rotate_left
        · intro W hW; (try dsimp only at hW); go_simp <;> with_reducible rfl
        simp only [Act.put, List.setIfInBounds_toArray, List.set_cons_zero, List.set_cons_succ]
        have kN : Below X.heap.size X (X.alloc (.cells #[.int .i64 t, .int .i64 m] 110)) := (Below.refl _ _).alloc (Nat.le_refl _) _
        have hCN := new_hold X t m 110
        refine wpAnyH_ready (rs := [2]) (by kernel_rfl) (by simp) ?_
        refine AllReadyH.cons rfl (fun K hK => ?_) AllReadyH.nil
        go_simp
        refine hK.out _ _ ⟨keep_cell kN hH.1, keep_cell kN hH.2.1, keep_cell kN hH.2.2⟩ (fun hH => ?_)
        clear hK K
        have kX1 := kX.trans (kN.mono (by omega))
        have lX1 : w.heap.size < (X.alloc (.cells #[.int .i64 t, .int .i64 m] 110)).heap.size := Nat.lt_of_lt_of_le lX kN.size
        have own5 := owns_below own5 kN
        refine wpAnyH_ready (rs := [3]) (by kernel_rfl) (by simp) ?_
        refine AllReadyH.cons rfl (fun K hK => ?_) AllReadyH.nil
        refine step_appX Try.underlying72 Try.underlying72 gi0 gz0 gz1 gz2 rfl (by omega) (by omega) (.tmp 40) (.tmp 42) rfl rfl (w.heap.size + 1) (.slice a5 k c5) k ((hcells qs).take (k * 2)) _ 1 1 (hcells [⟨t, m⟩]) rfl rfl own5 hCN (hcells_one' _) (by omega) (by omega) ?_
        intro a7 c7 w7 own7 gr7 at7
        have k7 : Below w.heap.size w w7 := kX1.grown gr7 kX1.size (fun g hg => by have := (owns_lt own5 g hg).1; omega)
        have l7 : w.heap.size < w7.heap.size := Nat.lt_of_lt_of_le lX1 gr7.size
        refine hK.out _ _ ⟨grown_cell gr7 hH.1 (fun e => by have := (owns_lt own5 _ e).1; omega), grown_cell gr7 hH.2.1 (fun e => by have := (owns_lt own5 _ e).1; omega), grown_cell gr7 hH.2.2 (fun e => by have := (owns_lt own5 _ e).1; omega)⟩ (fun hH => ?_)
        clear hK K gr7 at7 own5 kX1 lX1 hCN kN
        simp only [Act.put, List.setIfInBounds_toArray, List.set_cons_zero, List.set_cons_succ]
        have hC2 := CellsAt.below (by have := cells_drop h4 (k := k * 2) (by omega); rw [Nat.zero_add, ← Nat.sub_mul] at this; exact this) k7
        refine wpAnyH_ready (rs := [10]) (by kernel_rfl) (by simp) ?_
        refine AllReadyH.cons rfl (fun K hK => ?_) AllReadyH.nil
        refine step_appX Try.underlying72 Try.underlying72 gi0 gz0 gz1 gz2 rfl (by omega) (by omega) (.tmp 43) (.tmp 49) rfl rfl (w.heap.size + 1) (.slice a7 (k + 1) c7) (k + 1) _ (some ⟨g, k * 2, none⟩) (nq - k) (cq - k) ((hcells qs).drop (k * 2)) rfl rfl own7 hC2 h1b (by omega) (by omega) ?_
        intro a8 c8 w8 own8 gr8 at8
        have k8 : Below w.heap.size w w8 := k7.grown gr8 k7.size (fun g hg => by have := (owns_lt own7 g hg).1; omega)
        refine hK.out _ _ ⟨grown_cell gr8 hH.1 (fun e => by have := (owns_lt own7 _ e).1; omega), grown_cell gr8 hH.2.1 (fun e => by have := (owns_lt own7 _ e).1; omega), grown_cell gr8 hH.2.2 (fun e => by have := (owns_lt own7 _ e).1; omega)⟩ (fun hH => ?_)
        clear hK K gr8 at8 own7 k7 l7 hC2
        simp only [Act.put, List.setIfInBounds_toArray, List.set_cons_zero, List.set_cons_succ]
        refine hTake (i := 11) (v := ?_) rfl (by kernel_rfl) (by kernel_rfl) (by kernel_rfl) (by rfl) ?_ hH ?_
        rotate_left
        · intro W hW; (try dsimp only at hW); go_simp <;> with_reducible rfl
        simp only [Act.put, List.setIfInBounds_toArray, List.set_cons_zero, List.set_cons_succ]
        refine wpAnyH_done (by kernel_rfl) ?_ _
        refine NoPanic.normal ?_
        have en : k + 1 + (nq - k) = nq + 1 := by omega
        simp only [en] at own8 ⊢
        rw [← hcells_take, ← hcells_drop, ← hcells_append, ← hcells_append] at own8
        have O8 := hid (owns_base (base' := w.heap.size) own8 (by omega))
        clear own8
        go_wp2
        exact bodyPost_ret (v := .slice a8 (nq + 1) c8) (by simp [results, Try.results95, go_sem]) rfl ⟨_, _, rfl, by
          rw [HCV.out]
          first | exact O8.out | (have h9 := O8.out; simp only [List.append_assoc, List.cons_append, List.nil_append] at h9; exact h9), k8⟩
      · have HAT := hid HAT
        have HS := hid (HS.out he)
        clear he HE
        go_wp2_with fail
        refine wp_region_noPanic ?_
        refine wp_region_held_drew (S := fun W' => W'.cell? ⟨o, p * 3 + 1, none⟩ = some (.slice ah nh ch) ∧ W'.cell? ⟨o, p * 3 + 2, none⟩ = some (.slice (some ⟨g, 0, none⟩) nq cq) ∧ W'.cell? ⟨g, k * 2, none⟩ = some (.int .i64 rt) ∧ W'.cell? ⟨w.heap.size, 0, none⟩ = some (.int .i64 t) ∧ W'.cell? ⟨w.heap.size, 1, none⟩ = some (.int .i64 m) ∧ w.heap.size < W'.heap.size ∧ Below w.heap.size w W') (by kernel_rfl) (⟨x1, x2, q0, z0, z1, ll, hB.drew⟩) (fun hH => ?_)
        refine hTake (i := 0) (v := ?_) rfl (by kernel_rfl) (by kernel_rfl) (by kernel_rfl) (by rfl) ?_ hH ?_
        rotate_left
        · intro W hW; (try dsimp only at hW); go_simp <;> with_reducible rfl
        simp only [Act.put, List.setIfInBounds_toArray, List.set_cons_zero, List.set_cons_succ]
        refine hTake (i := 1) (v := ?_) rfl (by kernel_rfl) (by kernel_rfl) (by kernel_rfl) (by rfl) ?_ hH ?_
        rotate_left
        · intro W hW; (try dsimp only at hW); go_simp <;> with_reducible rfl
        simp only [Act.put, List.setIfInBounds_toArray, List.set_cons_zero, List.set_cons_succ]
        refine hTake (i := 2) (v := ?_) rfl (by kernel_rfl) (by kernel_rfl) (by kernel_rfl) (by rfl) ?_ hH ?_
        rotate_left
        · intro W hW; (try dsimp only at hW); go_simp <;> with_reducible rfl
        simp only [Act.put, List.setIfInBounds_toArray, List.set_cons_zero, List.set_cons_succ]
        refine hTake (i := 3) (v := ?_) rfl (by kernel_rfl) (by kernel_rfl) (by kernel_rfl) (by rfl) ?_ hH ?_
        rotate_left
        · intro W hW; (try dsimp only at hW); go_simp <;> with_reducible rfl
        simp only [Act.put, List.setIfInBounds_toArray, List.set_cons_zero, List.set_cons_succ]
        refine hTake (i := 4) (v := ?_) rfl (by kernel_rfl) (by kernel_rfl) (by kernel_rfl) (by rfl) ?_ hH ?_
        rotate_left
        · intro W hW; (try dsimp only at hW); go_simp <;> with_reducible rfl
        simp only [Act.put, List.setIfInBounds_toArray, List.set_cons_zero, List.set_cons_succ]
        refine hTake (i := 5) (v := ?_) rfl (by kernel_rfl) (by kernel_rfl) (by kernel_rfl) (by rfl) ?_ hH ?_
        rotate_left
        · intro W hW; (try dsimp only at hW); go_simp <;> with_reducible rfl
        simp only [Act.put, List.setIfInBounds_toArray, List.set_cons_zero, List.set_cons_succ]
        refine hTake (i := 6) (v := ?_) rfl (by kernel_rfl) (by kernel_rfl) (by kernel_rfl) (by rfl) ?_ hH ?_
        rotate_left
        · intro W hW; (try dsimp only at hW); go_simp <;> with_reducible rfl
        simp only [Act.put, List.setIfInBounds_toArray, List.set_cons_zero, List.set_cons_succ]
        refine hTake (i := 7) (v := ?_) rfl (by kernel_rfl) (by kernel_rfl) (by kernel_rfl) (by rfl) ?_ hH ?_
        rotate_left
        · intro W hW; (try dsimp only at hW); go_simp <;> with_reducible rfl
        simp only [Act.put, List.setIfInBounds_toArray, List.set_cons_zero, List.set_cons_succ]
        refine hTake (i := 8) (v := ?_) rfl (by kernel_rfl) (by kernel_rfl) (by kernel_rfl) (by rfl) ?_ hH ?_
        rotate_left
        · intro W hW; (try dsimp only at hW); go_simp <;> with_reducible rfl
        simp only [Act.put, List.setIfInBounds_toArray, List.set_cons_zero, List.set_cons_succ]
        refine hTake (i := 9) (v := ?_) rfl (by kernel_rfl) (by kernel_rfl) (by kernel_rfl) (by rfl) ?_ hH ?_
        rotate_left
        · intro W hW; (try dsimp only at hW); go_simp <;> with_reducible rfl
        simp only [Act.put, List.setIfInBounds_toArray, List.set_cons_zero, List.set_cons_succ]
        refine hTake (i := 10) (v := ?_) rfl (by kernel_rfl) (by kernel_rfl) (by kernel_rfl) (by rfl) ?_ hH ?_
        rotate_left
        · intro W hW; (try dsimp only at hW); go_simp <;> with_reducible rfl
        simp only [Act.put, List.setIfInBounds_toArray, List.set_cons_zero, List.set_cons_succ]
        refine hTake (i := 11) (v := ?_) rfl (by kernel_rfl) (by kernel_rfl) (by kernel_rfl) (by rfl) ?_ hH ?_
        rotate_left
        · intro W hW; (try dsimp only at hW); go_simp <;> with_reducible rfl
        simp only [Act.put, List.setIfInBounds_toArray, List.set_cons_zero, List.set_cons_succ]
        refine hTake (i := 12) (v := ?_) rfl (by kernel_rfl) (by kernel_rfl) (by kernel_rfl) (by rfl) ?_ hH ?_
        rotate_left
        · intro W hW; (try dsimp only at hW); go_simp <;> with_reducible rfl
        simp only [Act.put, List.setIfInBounds_toArray, List.set_cons_zero, List.set_cons_succ]
        refine hTake (i := 13) (v := ?_) rfl (by kernel_rfl) (by kernel_rfl) (by kernel_rfl) (by rfl) ?_ hH ?_
        rotate_left
        · intro W hW; (try dsimp only at hW); go_simp <;> with_reducible rfl
        simp only [Act.put, List.setIfInBounds_toArray, List.set_cons_zero, List.set_cons_succ]
        refine hTake (i := 14) (v := ?_) rfl (by kernel_rfl) (by kernel_rfl) (by kernel_rfl) (by rfl) ?_ hH ?_
        rotate_left
        · intro W hW; (try dsimp only at hW); go_simp <;> with_reducible rfl
        simp only [Act.put, List.setIfInBounds_toArray, List.set_cons_zero, List.set_cons_succ]
        refine hTake (i := 15) (v := ?_) rfl (by kernel_rfl) (by kernel_rfl) (by kernel_rfl) (by rfl) ?_ hH ?_
        rotate_left
        · intro W hW; (try dsimp only at hW); go_simp <;> with_reducible rfl
        simp only [Act.put, List.setIfInBounds_toArray, List.set_cons_zero, List.set_cons_succ]
        refine hTake (i := 16) (v := ?_) rfl (by kernel_rfl) (by kernel_rfl) (by kernel_rfl) (by rfl) ?_ hH ?_
        rotate_left
        · intro W hW; (try dsimp only at hW); go_simp <;> with_reducible rfl
        simp only [Act.put, List.setIfInBounds_toArray, List.set_cons_zero, List.set_cons_succ]
        refine hTake (i := 17) (v := ?_) rfl (by kernel_rfl) (by kernel_rfl) (by kernel_rfl) (by rfl) ?_ hH ?_
        rotate_left
        · intro W hW; (try dsimp only at hW); go_simp <;> with_reducible rfl
        simp only [Act.put, List.setIfInBounds_toArray, List.set_cons_zero, List.set_cons_succ]
        refine hTake (i := 18) (v := ?_) rfl (by kernel_rfl) (by kernel_rfl) (by kernel_rfl) (by rfl) ?_ hH ?_
        rotate_left
        · intro W hW; (try dsimp only at hW); go_simp <;> with_reducible rfl
        simp only [Act.put, List.setIfInBounds_toArray, List.set_cons_zero, List.set_cons_succ]
        refine hTake (i := 19) (v := ?_) rfl (by kernel_rfl) (by kernel_rfl) (by kernel_rfl) (by rfl) ?_ hH ?_
        rotate_left
        · intro W hW; (try dsimp only at hW); go_simp <;> with_reducible rfl
        simp only [Act.put, List.setIfInBounds_toArray, List.set_cons_zero, List.set_cons_succ]
        refine wpAnyH_ready (rs := [20]) (by kernel_rfl) (by simp) ?_
        refine AllReadyH.cons rfl (fun K hK => ?_) AllReadyH.nil
        go_simp
        refine (l6At_any ah nh ch rt hs _ (h3.below hH.2.2.2.2.2.2) hn).mono ?_
        rintro e w2 ⟨rfl, rfl⟩
        rw [HAT.out]
        go_wp2_with fail
        refine hK.out _ _ ?_ (fun hH => ?_)
        · exact hH
        clear hK K
        refine hTake (i := 21) (v := ?_) rfl (by kernel_rfl) (by kernel_rfl) (by kernel_rfl) (by rfl) ?_ hH ?_
        rotate_left
        · intro W hW; (try dsimp only at hW); go_simp <;> with_reducible rfl
        simp only [Act.put, List.setIfInBounds_toArray, List.set_cons_zero, List.set_cons_succ]
        refine hTake (i := 22) (v := ?_) rfl (by kernel_rfl) (by kernel_rfl) (by kernel_rfl) (by rfl) ?_ hH ?_
        rotate_left
        · intro W hW; (try dsimp only at hW); go_simp <;> with_reducible rfl
        simp only [Act.put, List.setIfInBounds_toArray, List.set_cons_zero, List.set_cons_succ]
        refine wpAnyH_done (by kernel_rfl) ?_ _
        refine NoPanic.normal ?_
        have u2 := hH.2.1
        have z0 := hH.2.2.2.1
        have z1 := hH.2.2.2.2.1
        have lU0 := hH.2.2.2.2.2.1
        have kU0 := hH.2.2.2.2.2.2
        clear hH
        go_wp2
        go_roundw
        case rel => exact ⟨k + 1, by omega, by go_num, HS.out, z0, z1, lU0, kU0⟩
        case measure => simp [intOf]; omega
    · have HCV := hid (Ch.conv_is (hs := hs) (qs := qs) (k := k) (by have := HQ.out; omega) HA.out (fun h => by have := HQ.out; omega))
      obtain rfl : k = nq := by omega
      have hcap := HCap.out
      have h1a : ∀ u ∈ (hcells qs).take (k * 2), u.oneCell' = true := fun u hu => hcells_one' qs u (List.mem_of_mem_take hu)
      have h1b : ∀ u ∈ (hcells qs).drop (k * 2), u.oneCell' = true := fun u hu => hcells_one' qs u (List.mem_of_mem_drop hu)
      rcases HOW.out with ⟨hv, h0⟩ | ⟨g, cp, cur, hv, _⟩
      · simp only [Value.slice.injEq] at hv
        obtain ⟨rfl, rfl, rfl⟩ := hv
        go_wp2_with fail
        refine wp_region_noPanic ?_
        refine wp_region_held_drew (S := fun W' => W'.cell? ⟨o, p * 3 + 1, none⟩ = some (.slice ah nh ch) ∧ W'.cell? ⟨o, p * 3 + 2, none⟩ = some (.slice none 0 0) ∧ W'.cell? ⟨w.heap.size, 0, none⟩ = some (.int .i64 t) ∧ W'.cell? ⟨w.heap.size, 1, none⟩ = some (.int .i64 m) ∧ w.heap.size < W'.heap.size ∧ Below w.heap.size w W') (by kernel_rfl) (⟨x1, x2, z0, z1, ll, hB.drew⟩) (fun hH => ?_)
        refine hTake (i := 0) (v := ?_) rfl (by kernel_rfl) (by kernel_rfl) (by kernel_rfl) (by rfl) ?_ hH ?_
        rotate_left
        · intro W hW; (try dsimp only at hW); go_simp <;> with_reducible rfl
        simp only [Act.put, List.setIfInBounds_toArray, List.set_cons_zero, List.set_cons_succ]
        refine hTake (i := 1) (v := ?_) rfl (by kernel_rfl) (by kernel_rfl) (by kernel_rfl) (by rfl) ?_ hH ?_
        rotate_left
        · intro W hW; (try dsimp only at hW); go_simp <;> with_reducible rfl
        simp only [Act.put, List.setIfInBounds_toArray, List.set_cons_zero, List.set_cons_succ]
        refine hTake (i := 2) (v := ?_) rfl (by kernel_rfl) (by kernel_rfl) (by kernel_rfl) (by rfl) ?_ hH ?_
        rotate_left
        · intro W hW; (try dsimp only at hW); go_simp <;> with_reducible rfl
        simp only [Act.put, List.setIfInBounds_toArray, List.set_cons_zero, List.set_cons_succ]
        refine hTake (i := 3) (v := ?_) rfl (by kernel_rfl) (by kernel_rfl) (by kernel_rfl) (by rfl) ?_ hH ?_
        rotate_left
        · intro W hW; (try dsimp only at hW); go_simp <;> with_reducible rfl
        simp only [Act.put, List.setIfInBounds_toArray, List.set_cons_zero, List.set_cons_succ]
        refine hTake (i := 4) (v := ?_) rfl (by kernel_rfl) (by kernel_rfl) (by kernel_rfl) (by rfl) ?_ hH ?_
        rotate_left
        · intro W hW; (try dsimp only at hW); go_simp <;> with_reducible rfl
        simp only [Act.put, List.setIfInBounds_toArray, List.set_cons_zero, List.set_cons_succ]
        refine hTake (i := 5) (v := ?_) rfl (by kernel_rfl) (by kernel_rfl) (by kernel_rfl) (by rfl) ?_ hH ?_
        rotate_left
        · intro W hW; (try dsimp only at hW); go_simp <;> with_reducible rfl
        simp only [Act.put, List.setIfInBounds_toArray, List.set_cons_zero, List.set_cons_succ]
        refine hTake (i := 6) (v := ?_) rfl (by kernel_rfl) (by kernel_rfl) (by kernel_rfl) (by rfl) ?_ hH ?_
        rotate_left
        · intro W hW; (try dsimp only at hW); go_simp <;> with_reducible rfl
        simp only [Act.put, List.setIfInBounds_toArray, List.set_cons_zero, List.set_cons_succ]
        refine hTake (i := 7) (v := ?_) rfl (by kernel_rfl) (by kernel_rfl) (by kernel_rfl) (by rfl) ?_ hH ?_
        rotate_left
        · intro W hW; (try dsimp only at hW); go_simp <;> with_reducible rfl
        simp only [Act.put, List.setIfInBounds_toArray, List.set_cons_zero, List.set_cons_succ]
        refine hSkip (i := 8) rfl (by kernel_rfl) (by kernel_rfl) (by kernel_rfl) (by rfl) hH ?_
        simp only [Act.put, List.setIfInBounds_toArray, List.set_cons_zero, List.set_cons_succ]
        refine hSkip (i := 9) rfl (by kernel_rfl) (by kernel_rfl) (by kernel_rfl) (by rfl) hH ?_
        simp only [Act.put, List.setIfInBounds_toArray, List.set_cons_zero, List.set_cons_succ]
        refine hSkip (i := 10) rfl (by kernel_rfl) (by kernel_rfl) (by kernel_rfl) (by rfl) hH ?_
        simp only [Act.put, List.setIfInBounds_toArray, List.set_cons_zero, List.set_cons_succ]
        refine hSkip (i := 11) rfl (by kernel_rfl) (by kernel_rfl) (by kernel_rfl) (by rfl) hH ?_
        simp only [Act.put, List.setIfInBounds_toArray, List.set_cons_zero, List.set_cons_succ]
        refine hSkip (i := 12) rfl (by kernel_rfl) (by kernel_rfl) (by kernel_rfl) (by rfl) hH ?_
        simp only [Act.put, List.setIfInBounds_toArray, List.set_cons_zero, List.set_cons_succ]
        refine hSkip (i := 13) rfl (by kernel_rfl) (by kernel_rfl) (by kernel_rfl) (by rfl) hH ?_
        simp only [Act.put, List.setIfInBounds_toArray, List.set_cons_zero, List.set_cons_succ]
        refine hSkip (i := 14) rfl (by kernel_rfl) (by kernel_rfl) (by kernel_rfl) (by rfl) hH ?_
        simp only [Act.put, List.setIfInBounds_toArray, List.set_cons_zero, List.set_cons_succ]
        refine hSkip (i := 15) rfl (by kernel_rfl) (by kernel_rfl) (by kernel_rfl) (by rfl) hH ?_
        simp only [Act.put, List.setIfInBounds_toArray, List.set_cons_zero, List.set_cons_succ]
        refine hSkip (i := 16) rfl (by kernel_rfl) (by kernel_rfl) (by kernel_rfl) (by rfl) hH ?_
        simp only [Act.put, List.setIfInBounds_toArray, List.set_cons_zero, List.set_cons_succ]
        refine hSkip (i := 17) rfl (by kernel_rfl) (by kernel_rfl) (by kernel_rfl) (by rfl) hH ?_
        simp only [Act.put, List.setIfInBounds_toArray, List.set_cons_zero, List.set_cons_succ]
        refine hSkip (i := 18) rfl (by kernel_rfl) (by kernel_rfl) (by kernel_rfl) (by rfl) hH ?_
        simp only [Act.put, List.setIfInBounds_toArray, List.set_cons_zero, List.set_cons_succ]
        refine hSkip (i := 19) rfl (by kernel_rfl) (by kernel_rfl) (by kernel_rfl) (by rfl) hH ?_
        simp only [Act.put, List.setIfInBounds_toArray, List.set_cons_zero, List.set_cons_succ]
        refine hSkip (i := 20) rfl (by kernel_rfl) (by kernel_rfl) (by kernel_rfl) (by rfl) hH ?_
        simp only [Act.put, List.setIfInBounds_toArray, List.set_cons_zero, List.set_cons_succ]
        refine hSkip (i := 21) rfl (by kernel_rfl) (by kernel_rfl) (by kernel_rfl) (by rfl) hH ?_
        simp only [Act.put, List.setIfInBounds_toArray, List.set_cons_zero, List.set_cons_succ]
        refine hTake (i := 22) (v := ?_) rfl (by kernel_rfl) (by kernel_rfl) (by kernel_rfl) (by rfl) ?_ hH ?_
        rotate_left
        · intro W hW; (try dsimp only at hW); go_simp <;> with_reducible rfl
        simp only [Act.put, List.setIfInBounds_toArray, List.set_cons_zero, List.set_cons_succ]
        refine wpAnyH_done (by kernel_rfl) ?_ _
        refine NoPanic.normal ?_
        have u2 := hH.2.1
        have z0 := hH.2.2.1
        have z1 := hH.2.2.2.1
        have lU0 := hH.2.2.2.2.1
        have kU0 := hH.2.2.2.2.2
        clear hH
        clear x1 x2 hB ll
        generalize wr.drew = U0 at *
        obtain ⟨oE, kE, lE⟩ := alloc_empty U0 110 2
        have e2 := keep_cell kE u2
        have kW1 := kU0.trans (kE.mono (by omega))
        have lW1 : w.heap.size < (U0.alloc (.cells #[] 110)).heap.size := by omega
        have oE := owns_base (base' := w.heap.size + 1) oE (by omega)
        have hC1 := ((cells_take (k := 0 * 2) h4 (by omega)).below kW1)
        have hs0 : 0 + 0 ≤ 4194304 := by omega
        have hb0 : w.heap.size + 1 ≤ (U0.alloc (.cells #[] 110)).heap.size := by omega
        go_wp2_with (at_builtin
                     go_must (refine wpList_appX Try.underlying72 Try.underlying72 gi0 gz0 gz1 gz2 rfl (by omega) (by omega) (.tmp 32) (.tmp 38) ?_ ?_ (w.heap.size + 1) (.slice (some ⟨U0.heap.size, 0, none⟩) 0 0) 0 [] none 0 0 ((hcells qs).take (0 * 2)) ?_ ?_ oE hC1 h1a hs0 hb0 ?_; exact rfl; exact rfl; exact rfl; exact rfl; intro a5 c5 w5 own5 gr5 at5)
                     simp only [Nat.zero_add, List.nil_append] at own5 ⊢)
        have k5 : Below w.heap.size w w5 := kW1.grown gr5 kW1.size (fun g hg => by have := (owns_lt oE g hg).1; omega)
        have l5 : w.heap.size < w5.heap.size := Nat.lt_of_lt_of_le lW1 gr5.size
        have hH : w5.cell? ⟨o, p * 3 + 2, none⟩ = some (.slice none 0 0) ∧ w5.cell? ⟨w.heap.size, 0, none⟩ = some (.int .i64 t) ∧ w5.cell? ⟨w.heap.size, 1, none⟩ = some (.int .i64 m) := ⟨grown_cell gr5 e2 (fun e => by have := (owns_lt oE _ e).1; omega), grown_cell gr5 (keep_cell kE z0) (fun e => by have := (owns_lt oE _ e).1; omega), grown_cell gr5 (keep_cell kE z1) (fun e => by have := (owns_lt oE _ e).1; omega)⟩
        clear gr5 at5 oE kE lE hC1 kW1 lW1 e2 u2 z0 z1
        refine wp_region_noPanic ?_
        refine wp_region_held_drew (S := fun W' => W'.cell? ⟨o, p * 3 + 2, none⟩ = some (.slice none 0 0) ∧ W'.cell? ⟨w.heap.size, 0, none⟩ = some (.int .i64 t) ∧ W'.cell? ⟨w.heap.size, 1, none⟩ = some (.int .i64 m)) (by kernel_rfl) (hH) (fun hH => ?_)
        have kX : Below w.heap.size w w5.drew := k5.drew
        have lX : w.heap.size < w5.drew.heap.size := l5
        have own5 := owns_below own5 ((Below.refl _ _).drew : Below w5.heap.size w5 w5.drew)
        generalize w5.drew = X at *
        refine hTake (i := 0) (v := ?_) rfl (by kernel_rfl) (by kernel_rfl) (by kernel_rfl) (by rfl) ?_ hH ?_
        rotate_left
        · intro W hW; (try dsimp only at hW); go_simp <;> with_reducible rfl
        simp only [Act.put, List.setIfInBounds_toArray, List.set_cons_zero, List.set_cons_succ]
        refine hTake (i := 1) (v := ?_) rfl (by kernel_rfl) (by kernel_rfl) (by kernel_rfl) (by rfl) ?_ hH ?_
        rotate_left
        · intro W hW; (try dsimp only at hW); go_simp <;> with_reducible rfl
        simp only [Act.put, List.setIfInBounds_toArray, List.set_cons_zero, List.set_cons_succ]
        refine hTake (i := 4) (v := ?_) rfl (by kernel_rfl) (by kernel_rfl) (by kernel_rfl) (by rfl) ?_ hH ?_
        rotate_left
        · intro W hW; (try dsimp only at hW); go_simp <;> with_reducible rfl
        simp only [Act.put, List.setIfInBounds_toArray, List.set_cons_zero, List.set_cons_succ]
        refine hTake (i := 5) (v := ?_) rfl (by kernel_rfl) (by kernel_rfl) (by kernel_rfl) (by rfl) ?_ hH ?_
        rotate_left
        · intro W hW; (try dsimp only at hW); go_simp <;> with_reducible rfl
        simp only [Act.put, List.setIfInBounds_toArray, List.set_cons_zero, List.set_cons_succ]
        refine hTake (i := 6) (v := ?_) rfl (by kernel_rfl) (by kernel_rfl) (by kernel_rfl) (by rfl) ?_ hH ?_
        rotate_left
        · intro W hW; (try dsimp only at hW); go_simp <;> with_reducible rfl
        simp only [Act.put, List.setIfInBounds_toArray, List.set_cons_zero, List.set_cons_succ]
        refine hTake (i := 7) (v := ?_) rfl (by kernel_rfl) (by kernel_rfl) (by kernel_rfl) (by rfl) ?_ hH ?_
        rotate_left
        · intro W hW; (try dsimp only at hW); go_simp <;> with_reducible rfl
        simp only [Act.put, List.setIfInBounds_toArray, List.set_cons_zero, List.set_cons_succ]
        refine hTake (i := 8) (v := ?_) rfl (by kernel_rfl) (by kernel_rfl) (by kernel_rfl) (by rfl) ?_ hH ?_
        rotate_left
        · intro W hW; (try dsimp only at hW); go_simp <;> with_reducible rfl
        simp only [Act.put, List.setIfInBounds_toArray, List.set_cons_zero, List.set_cons_succ]
        refine hTake (i := 9) (v := ?_) rfl (by kernel_rfl) (by kernel_rfl) (by kernel_rfl) (by rfl) ?_ hH ?_
        rotate_left
        · intro W hW; (try dsimp only at hW); go_simp <;> with_reducible rfl
        simp only [Act.put, List.setIfInBounds_toArray, List.set_cons_zero, List.set_cons_succ]
        have kN : Below X.heap.size X (X.alloc (.cells #[.int .i64 t, .int .i64 m] 110)) := (Below.refl _ _).alloc (Nat.le_refl _) _
        have hCN := new_hold X t m 110
        refine wpAnyH_ready (rs := [2]) (by kernel_rfl) (by simp) ?_
        refine AllReadyH.cons rfl (fun K hK => ?_) AllReadyH.nil
        go_simp
        refine hK.out _ _ ⟨keep_cell kN hH.1, keep_cell kN hH.2.1, keep_cell kN hH.2.2⟩ (fun hH => ?_)
        clear hK K
        have kX1 := kX.trans (kN.mono (by omega))
        have lX1 : w.heap.size < (X.alloc (.cells #[.int .i64 t, .int .i64 m] 110)).heap.size := Nat.lt_of_lt_of_le lX kN.size
        have own5 := owns_below own5 kN
        refine wpAnyH_ready (rs := [3]) (by kernel_rfl) (by simp) ?_
        refine AllReadyH.cons rfl (fun K hK => ?_) AllReadyH.nil
        refine step_appX Try.underlying72 Try.underlying72 gi0 gz0 gz1 gz2 rfl (by omega) (by omega) (.tmp 40) (.tmp 42) rfl rfl (w.heap.size + 1) (.slice a5 0 c5) 0 ((hcells qs).take (0 * 2)) _ 1 1 (hcells [⟨t, m⟩]) rfl rfl own5 hCN (hcells_one' _) (by omega) (by omega) ?_
        intro a7 c7 w7 own7 gr7 at7
        have k7 : Below w.heap.size w w7 := kX1.grown gr7 kX1.size (fun g hg => by have := (owns_lt own5 g hg).1; omega)
        have l7 : w.heap.size < w7.heap.size := Nat.lt_of_lt_of_le lX1 gr7.size
        refine hK.out _ _ ⟨grown_cell gr7 hH.1 (fun e => by have := (owns_lt own5 _ e).1; omega), grown_cell gr7 hH.2.1 (fun e => by have := (owns_lt own5 _ e).1; omega), grown_cell gr7 hH.2.2 (fun e => by have := (owns_lt own5 _ e).1; omega)⟩ (fun hH => ?_)
        clear hK K gr7 at7 own5 kX1 lX1 hCN kN
        simp only [Act.put, List.setIfInBounds_toArray, List.set_cons_zero, List.set_cons_succ]
        have hC2 := CellsAt.below (show CellsAt w none (0 * 2) ((hcells qs).drop (0 * 2)) from ⟨by rw [List.length_drop, h4.1], fun h => by omega⟩) k7
        refine wpAnyH_ready (rs := [10]) (by kernel_rfl) (by simp) ?_
        refine AllReadyH.cons rfl (fun K hK => ?_) AllReadyH.nil
        refine step_appX Try.underlying72 Try.underlying72 gi0 gz0 gz1 gz2 rfl (by omega) (by omega) (.tmp 43) (.tmp 49) rfl rfl (w.heap.size + 1) (.slice a7 (0 + 1) c7) (0 + 1) _ none 0 0 ((hcells qs).drop (0 * 2)) rfl rfl own7 hC2 h1b (by omega) (by omega) ?_
        intro a8 c8 w8 own8 gr8 at8
        have k8 : Below w.heap.size w w8 := k7.grown gr8 k7.size (fun g hg => by have := (owns_lt own7 g hg).1; omega)
        refine hK.out _ _ ⟨grown_cell gr8 hH.1 (fun e => by have := (owns_lt own7 _ e).1; omega), grown_cell gr8 hH.2.1 (fun e => by have := (owns_lt own7 _ e).1; omega), grown_cell gr8 hH.2.2 (fun e => by have := (owns_lt own7 _ e).1; omega)⟩ (fun hH => ?_)
        clear hK K gr8 at8 own7 k7 l7 hC2
        simp only [Act.put, List.setIfInBounds_toArray, List.set_cons_zero, List.set_cons_succ]
        refine hTake (i := 11) (v := ?_) rfl (by kernel_rfl) (by kernel_rfl) (by kernel_rfl) (by rfl) ?_ hH ?_
        rotate_left
        · intro W hW; (try dsimp only at hW); go_simp <;> with_reducible rfl
        simp only [Act.put, List.setIfInBounds_toArray, List.set_cons_zero, List.set_cons_succ]
        refine wpAnyH_done (by kernel_rfl) ?_ _
        refine NoPanic.normal ?_
        have en : 0 + 1 + 0 = 0 + 1 := by omega
        simp only [en] at own8 ⊢
        rw [← hcells_take, ← hcells_drop, ← hcells_append, ← hcells_append] at own8
        have O8 := hid (owns_base (base' := w.heap.size) own8 (by omega))
        clear own8
        go_wp2
        exact bodyPost_ret (v := .slice a8 (0 + 1) c8) (by simp [results, Try.results95, go_sem]) rfl ⟨_, _, rfl, by
          rw [HCV.out]
          first | exact O8.out | (have h9 := O8.out; simp only [List.append_assoc, List.cons_append, List.nil_append] at h9; exact h9), k8⟩
      · simp only [Value.slice.injEq, true_and] at hv
        obtain ⟨rfl, rfl⟩ := hv
        clear HOW
        by_cases hck : cq = k
        · obtain rfl : k = cq := hck.symm
          go_wp2_with fail
          refine wp_region_noPanic ?_
          refine wp_region_held_drew (S := fun W' => W'.cell? ⟨o, p * 3 + 1, none⟩ = some (.slice ah nh ch) ∧ W'.cell? ⟨o, p * 3 + 2, none⟩ = some (.slice (some ⟨g, 0, none⟩) k k) ∧ W'.cell? ⟨w.heap.size, 0, none⟩ = some (.int .i64 t) ∧ W'.cell? ⟨w.heap.size, 1, none⟩ = some (.int .i64 m) ∧ w.heap.size < W'.heap.size ∧ Below w.heap.size w W') (by kernel_rfl) (⟨x1, x2, z0, z1, ll, hB.drew⟩) (fun hH => ?_)
          refine hTake (i := 0) (v := ?_) rfl (by kernel_rfl) (by kernel_rfl) (by kernel_rfl) (by rfl) ?_ hH ?_
          rotate_left
          · intro W hW; (try dsimp only at hW); go_simp <;> with_reducible rfl
          simp only [Act.put, List.setIfInBounds_toArray, List.set_cons_zero, List.set_cons_succ]
          refine hTake (i := 1) (v := ?_) rfl (by kernel_rfl) (by kernel_rfl) (by kernel_rfl) (by rfl) ?_ hH ?_
          rotate_left
          · intro W hW; (try dsimp only at hW); go_simp <;> with_reducible rfl
          simp only [Act.put, List.setIfInBounds_toArray, List.set_cons_zero, List.set_cons_succ]
          refine hTake (i := 2) (v := ?_) rfl (by kernel_rfl) (by kernel_rfl) (by kernel_rfl) (by rfl) ?_ hH ?_
          rotate_left
          · intro W hW; (try dsimp only at hW); go_simp <;> with_reducible rfl
          simp only [Act.put, List.setIfInBounds_toArray, List.set_cons_zero, List.set_cons_succ]
          refine hTake (i := 3) (v := ?_) rfl (by kernel_rfl) (by kernel_rfl) (by kernel_rfl) (by rfl) ?_ hH ?_
          rotate_left
          · intro W hW; (try dsimp only at hW); go_simp <;> with_reducible rfl
          simp only [Act.put, List.setIfInBounds_toArray, List.set_cons_zero, List.set_cons_succ]
          refine hTake (i := 4) (v := ?_) rfl (by kernel_rfl) (by kernel_rfl) (by kernel_rfl) (by rfl) ?_ hH ?_
          rotate_left
          · intro W hW; (try dsimp only at hW); go_simp <;> with_reducible rfl
          simp only [Act.put, List.setIfInBounds_toArray, List.set_cons_zero, List.set_cons_succ]
          refine hTake (i := 5) (v := ?_) rfl (by kernel_rfl) (by kernel_rfl) (by kernel_rfl) (by rfl) ?_ hH ?_
          rotate_left
          · intro W hW; (try dsimp only at hW); go_simp <;> with_reducible rfl
          simp only [Act.put, List.setIfInBounds_toArray, List.set_cons_zero, List.set_cons_succ]
          refine hTake (i := 6) (v := ?_) rfl (by kernel_rfl) (by kernel_rfl) (by kernel_rfl) (by rfl) ?_ hH ?_
          rotate_left
          · intro W hW; (try dsimp only at hW); go_simp <;> with_reducible rfl
          simp only [Act.put, List.setIfInBounds_toArray, List.set_cons_zero, List.set_cons_succ]
          refine hTake (i := 7) (v := ?_) rfl (by kernel_rfl) (by kernel_rfl) (by kernel_rfl) (by rfl) ?_ hH ?_
          rotate_left
          · intro W hW; (try dsimp only at hW); go_simp <;> with_reducible rfl
          simp only [Act.put, List.setIfInBounds_toArray, List.set_cons_zero, List.set_cons_succ]
          refine hSkip (i := 8) rfl (by kernel_rfl) (by kernel_rfl) (by kernel_rfl) (by rfl) hH ?_
          simp only [Act.put, List.setIfInBounds_toArray, List.set_cons_zero, List.set_cons_succ]
          refine hSkip (i := 9) rfl (by kernel_rfl) (by kernel_rfl) (by kernel_rfl) (by rfl) hH ?_
          simp only [Act.put, List.setIfInBounds_toArray, List.set_cons_zero, List.set_cons_succ]
          refine hSkip (i := 10) rfl (by kernel_rfl) (by kernel_rfl) (by kernel_rfl) (by rfl) hH ?_
          simp only [Act.put, List.setIfInBounds_toArray, List.set_cons_zero, List.set_cons_succ]
          refine hSkip (i := 11) rfl (by kernel_rfl) (by kernel_rfl) (by kernel_rfl) (by rfl) hH ?_
          simp only [Act.put, List.setIfInBounds_toArray, List.set_cons_zero, List.set_cons_succ]
          refine hSkip (i := 12) rfl (by kernel_rfl) (by kernel_rfl) (by kernel_rfl) (by rfl) hH ?_
          simp only [Act.put, List.setIfInBounds_toArray, List.set_cons_zero, List.set_cons_succ]
          refine hSkip (i := 13) rfl (by kernel_rfl) (by kernel_rfl) (by kernel_rfl) (by rfl) hH ?_
          simp only [Act.put, List.setIfInBounds_toArray, List.set_cons_zero, List.set_cons_succ]
          refine hSkip (i := 14) rfl (by kernel_rfl) (by kernel_rfl) (by kernel_rfl) (by rfl) hH ?_
          simp only [Act.put, List.setIfInBounds_toArray, List.set_cons_zero, List.set_cons_succ]
          refine hSkip (i := 15) rfl (by kernel_rfl) (by kernel_rfl) (by kernel_rfl) (by rfl) hH ?_
          simp only [Act.put, List.setIfInBounds_toArray, List.set_cons_zero, List.set_cons_succ]
          refine hSkip (i := 16) rfl (by kernel_rfl) (by kernel_rfl) (by kernel_rfl) (by rfl) hH ?_
          simp only [Act.put, List.setIfInBounds_toArray, List.set_cons_zero, List.set_cons_succ]
          refine hSkip (i := 17) rfl (by kernel_rfl) (by kernel_rfl) (by kernel_rfl) (by rfl) hH ?_
          simp only [Act.put, List.setIfInBounds_toArray, List.set_cons_zero, List.set_cons_succ]
          refine hSkip (i := 18) rfl (by kernel_rfl) (by kernel_rfl) (by kernel_rfl) (by rfl) hH ?_
          simp only [Act.put, List.setIfInBounds_toArray, List.set_cons_zero, List.set_cons_succ]
          refine hSkip (i := 19) rfl (by kernel_rfl) (by kernel_rfl) (by kernel_rfl) (by rfl) hH ?_
          simp only [Act.put, List.setIfInBounds_toArray, List.set_cons_zero, List.set_cons_succ]
          refine hSkip (i := 20) rfl (by kernel_rfl) (by kernel_rfl) (by kernel_rfl) (by rfl) hH ?_
          simp only [Act.put, List.setIfInBounds_toArray, List.set_cons_zero, List.set_cons_succ]
          refine hSkip (i := 21) rfl (by kernel_rfl) (by kernel_rfl) (by kernel_rfl) (by rfl) hH ?_
          simp only [Act.put, List.setIfInBounds_toArray, List.set_cons_zero, List.set_cons_succ]
          refine hTake (i := 22) (v := ?_) rfl (by kernel_rfl) (by kernel_rfl) (by kernel_rfl) (by rfl) ?_ hH ?_
          rotate_left
          · intro W hW; (try dsimp only at hW); go_simp <;> with_reducible rfl
          simp only [Act.put, List.setIfInBounds_toArray, List.set_cons_zero, List.set_cons_succ]
          refine wpAnyH_done (by kernel_rfl) ?_ _
          refine NoPanic.normal ?_
          have u2 := hH.2.1
          have z0 := hH.2.2.1
          have z1 := hH.2.2.2.1
          have lU0 := hH.2.2.2.2.1
          have kU0 := hH.2.2.2.2.2
          clear hH
          clear x1 x2 hB ll
          generalize wr.drew = U0 at *
          obtain ⟨oE, kE, lE⟩ := alloc_empty U0 110 2
          have e2 := keep_cell kE u2
          have kW1 := kU0.trans (kE.mono (by omega))
          have lW1 : w.heap.size < (U0.alloc (.cells #[] 110)).heap.size := by omega
          have oE := owns_base (base' := w.heap.size + 1) oE (by omega)
          have hC1 := ((cells_take (k := k * 2) h4 (by omega)).below kW1)
          have hs0 : 0 + k ≤ 4194304 := by omega
          have hb0 : w.heap.size + 1 ≤ (U0.alloc (.cells #[] 110)).heap.size := by omega
          go_wp2_with (at_builtin
                       go_must (refine wpList_appX Try.underlying72 Try.underlying72 gi0 gz0 gz1 gz2 rfl (by omega) (by omega) (.tmp 32) (.tmp 38) ?_ ?_ (w.heap.size + 1) (.slice (some ⟨U0.heap.size, 0, none⟩) 0 0) 0 [] (some ⟨g, 0, none⟩) k k ((hcells qs).take (k * 2)) ?_ ?_ oE hC1 h1a hs0 hb0 ?_; exact rfl; exact rfl; exact rfl; exact rfl; intro a5 c5 w5 own5 gr5 at5)
                       simp only [Nat.zero_add, List.nil_append] at own5 ⊢)
          have k5 : Below w.heap.size w w5 := kW1.grown gr5 kW1.size (fun g hg => by have := (owns_lt oE g hg).1; omega)
          have l5 : w.heap.size < w5.heap.size := Nat.lt_of_lt_of_le lW1 gr5.size
          have hH : w5.cell? ⟨o, p * 3 + 2, none⟩ = some (.slice (some ⟨g, 0, none⟩) k k) ∧ w5.cell? ⟨w.heap.size, 0, none⟩ = some (.int .i64 t) ∧ w5.cell? ⟨w.heap.size, 1, none⟩ = some (.int .i64 m) := ⟨grown_cell gr5 e2 (fun e => by have := (owns_lt oE _ e).1; omega), grown_cell gr5 (keep_cell kE z0) (fun e => by have := (owns_lt oE _ e).1; omega), grown_cell gr5 (keep_cell kE z1) (fun e => by have := (owns_lt oE _ e).1; omega)⟩
          clear gr5 at5 oE kE lE hC1 kW1 lW1 e2 u2 z0 z1
          refine wp_region_noPanic ?_
          refine wp_region_held_drew (S := fun W' => W'.cell? ⟨o, p * 3 + 2, none⟩ = some (.slice (some ⟨g, 0, none⟩) k k) ∧ W'.cell? ⟨w.heap.size, 0, none⟩ = some (.int .i64 t) ∧ W'.cell? ⟨w.heap.size, 1, none⟩ = some (.int .i64 m)) (by kernel_rfl) (hH) (fun hH => ?_)
          have kX : Below w.heap.size w w5.drew := k5.drew
          have lX : w.heap.size < w5.drew.heap.size := l5
          have own5 := owns_below own5 ((Below.refl _ _).drew : Below w5.heap.size w5 w5.drew)
          generalize w5.drew = X at *
          refine hTake (i := 0) (v := ?_) rfl (by kernel_rfl) (by kernel_rfl) (by kernel_rfl) (by rfl) ?_ hH ?_
          rotate_left
          · intro W hW; (try dsimp only at hW); go_simp <;> with_reducible rfl
          simp only [Act.put, List.setIfInBounds_toArray, List.set_cons_zero, List.set_cons_succ]
          refine hTake (i := 1) (v := ?_) rfl (by kernel_rfl) (by kernel_rfl) (by kernel_rfl) (by rfl) ?_ hH ?_
          rotate_left
          · intro W hW; (try dsimp only at hW); go_simp <;> with_reducible rfl
          simp only [Act.put, List.setIfInBounds_toArray, List.set_cons_zero, List.set_cons_succ]
          refine hTake (i := 4) (v := ?_) rfl (by kernel_rfl) (by kernel_rfl) (by kernel_rfl) (by rfl) ?_ hH ?_
          rotate_left
          · intro W hW; (try dsimp only at hW); go_simp <;> with_reducible rfl
          simp only [Act.put, List.setIfInBounds_toArray, List.set_cons_zero, List.set_cons_succ]
          refine hTake (i := 5) (v := ?_) rfl (by kernel_rfl) (by kernel_rfl) (by kernel_rfl) (by rfl) ?_ hH ?_
          rotate_left
          · intro W hW; (try dsimp only at hW); go_simp <;> with_reducible rfl
          simp only [Act.put, List.setIfInBounds_toArray, List.set_cons_zero, List.set_cons_succ]
          refine hTake (i := 6) (v := ?_) rfl (by kernel_rfl) (by kernel_rfl) (by kernel_rfl) (by rfl) ?_ hH ?_
          rotate_left
          · intro W hW; (try dsimp only at hW); go_simp <;> with_reducible rfl
          simp only [Act.put, List.setIfInBounds_toArray, List.set_cons_zero, List.set_cons_succ]
          refine hTake (i := 7) (v := ?_) rfl (by kernel_rfl) (by kernel_rfl) (by kernel_rfl) (by rfl) ?_ hH ?_
          rotate_left
          · intro W hW; (try dsimp only at hW); go_simp <;> with_reducible rfl
          simp only [Act.put, List.setIfInBounds_toArray, List.set_cons_zero, List.set_cons_succ]
          refine hTake (i := 8) (v := ?_) rfl (by kernel_rfl) (by kernel_rfl) (by kernel_rfl) (by rfl) ?_ hH ?_
          rotate_left
          · intro W hW; (try dsimp only at hW); go_simp <;> with_reducible rfl
          simp only [Act.put, List.setIfInBounds_toArray, List.set_cons_zero, List.set_cons_succ]
          refine hTake (i := 9) (v := ?_) rfl (by kernel_rfl) (by kernel_rfl) (by kernel_rfl) (by rfl) ?_ hH ?_
          rotate_left
          · intro W hW; (try dsimp only at hW); go_simp <;> with_reducible rfl
          simp only [Act.put, List.setIfInBounds_toArray, List.set_cons_zero, List.set_cons_succ]
          have kN : Below X.heap.size X (X.alloc (.cells #[.int .i64 t, .int .i64 m] 110)) := (Below.refl _ _).alloc (Nat.le_refl _) _
          have hCN := new_hold X t m 110
          refine wpAnyH_ready (rs := [2]) (by kernel_rfl) (by simp) ?_
          refine AllReadyH.cons rfl (fun K hK => ?_) AllReadyH.nil
          go_simp
          refine hK.out _ _ ⟨keep_cell kN hH.1, keep_cell kN hH.2.1, keep_cell kN hH.2.2⟩ (fun hH => ?_)
          clear hK K
          have kX1 := kX.trans (kN.mono (by omega))
          have lX1 : w.heap.size < (X.alloc (.cells #[.int .i64 t, .int .i64 m] 110)).heap.size := Nat.lt_of_lt_of_le lX kN.size
          have own5 := owns_below own5 kN
          refine wpAnyH_ready (rs := [3]) (by kernel_rfl) (by simp) ?_
          refine AllReadyH.cons rfl (fun K hK => ?_) AllReadyH.nil
          refine step_appX Try.underlying72 Try.underlying72 gi0 gz0 gz1 gz2 rfl (by omega) (by omega) (.tmp 40) (.tmp 42) rfl rfl (w.heap.size + 1) (.slice a5 k c5) k ((hcells qs).take (k * 2)) _ 1 1 (hcells [⟨t, m⟩]) rfl rfl own5 hCN (hcells_one' _) (by omega) (by omega) ?_
          intro a7 c7 w7 own7 gr7 at7
          have k7 : Below w.heap.size w w7 := kX1.grown gr7 kX1.size (fun g hg => by have := (owns_lt own5 g hg).1; omega)
          have l7 : w.heap.size < w7.heap.size := Nat.lt_of_lt_of_le lX1 gr7.size
          refine hK.out _ _ ⟨grown_cell gr7 hH.1 (fun e => by have := (owns_lt own5 _ e).1; omega), grown_cell gr7 hH.2.1 (fun e => by have := (owns_lt own5 _ e).1; omega), grown_cell gr7 hH.2.2 (fun e => by have := (owns_lt own5 _ e).1; omega)⟩ (fun hH => ?_)
          clear hK K gr7 at7 own5 kX1 lX1 hCN kN
          simp only [Act.put, List.setIfInBounds_toArray, List.set_cons_zero, List.set_cons_succ]
          have hC2 := CellsAt.below (show CellsAt w (some ⟨g, 0, none⟩) (0 * 2) ((hcells qs).drop (k * 2)) from ⟨by rw [List.length_drop, h4.1]; omega, fun h => by omega⟩) k7
          refine wpAnyH_ready (rs := [10]) (by kernel_rfl) (by simp) ?_
          refine AllReadyH.cons rfl (fun K hK => ?_) AllReadyH.nil
          refine step_appX Try.underlying72 Try.underlying72 gi0 gz0 gz1 gz2 rfl (by omega) (by omega) (.tmp 43) (.tmp 49) rfl rfl (w.heap.size + 1) (.slice a7 (k + 1) c7) (k + 1) _ (some ⟨g, 0, none⟩) 0 0 ((hcells qs).drop (k * 2)) rfl rfl own7 hC2 h1b (by omega) (by omega) ?_
          intro a8 c8 w8 own8 gr8 at8
          have k8 : Below w.heap.size w w8 := k7.grown gr8 k7.size (fun g hg => by have := (owns_lt own7 g hg).1; omega)
          refine hK.out _ _ ⟨grown_cell gr8 hH.1 (fun e => by have := (owns_lt own7 _ e).1; omega), grown_cell gr8 hH.2.1 (fun e => by have := (owns_lt own7 _ e).1; omega), grown_cell gr8 hH.2.2 (fun e => by have := (owns_lt own7 _ e).1; omega)⟩ (fun hH => ?_)
          clear hK K gr8 at8 own7 k7 l7 hC2
          simp only [Act.put, List.setIfInBounds_toArray, List.set_cons_zero, List.set_cons_succ]
          refine hTake (i := 11) (v := ?_) rfl (by kernel_rfl) (by kernel_rfl) (by kernel_rfl) (by rfl) ?_ hH ?_
          rotate_left
          · intro W hW; (try dsimp only at hW); go_simp <;> with_reducible rfl
          simp only [Act.put, List.setIfInBounds_toArray, List.set_cons_zero, List.set_cons_succ]
          refine wpAnyH_done (by kernel_rfl) ?_ _
          refine NoPanic.normal ?_
          have en : k + 1 + 0 = k + 1 := by omega
          simp only [en] at own8 ⊢
          rw [← hcells_take, ← hcells_drop, ← hcells_append, ← hcells_append] at own8
          have O8 := hid (owns_base (base' := w.heap.size) own8 (by omega))
          clear own8
          go_wp2
          exact bodyPost_ret (v := .slice a8 (k + 1) c8) (by simp [results, Try.results95, go_sem]) rfl ⟨_, _, rfl, by
            rw [HCV.out]
            first | exact O8.out | (have h9 := O8.out; simp only [List.append_assoc, List.cons_append, List.nil_append] at h9; exact h9), k8⟩
        · go_wp2_with fail
          refine wp_region_noPanic ?_
          refine wp_region_held_drew (S := fun W' => W'.cell? ⟨o, p * 3 + 1, none⟩ = some (.slice ah nh ch) ∧ W'.cell? ⟨o, p * 3 + 2, none⟩ = some (.slice (some ⟨g, 0, none⟩) k cq) ∧ W'.cell? ⟨w.heap.size, 0, none⟩ = some (.int .i64 t) ∧ W'.cell? ⟨w.heap.size, 1, none⟩ = some (.int .i64 m) ∧ w.heap.size < W'.heap.size ∧ Below w.heap.size w W') (by kernel_rfl) (⟨x1, x2, z0, z1, ll, hB.drew⟩) (fun hH => ?_)
          refine hTake (i := 0) (v := ?_) rfl (by kernel_rfl) (by kernel_rfl) (by kernel_rfl) (by rfl) ?_ hH ?_
          rotate_left
          · intro W hW; (try dsimp only at hW); go_simp <;> with_reducible rfl
          simp only [Act.put, List.setIfInBounds_toArray, List.set_cons_zero, List.set_cons_succ]
          refine hTake (i := 1) (v := ?_) rfl (by kernel_rfl) (by kernel_rfl) (by kernel_rfl) (by rfl) ?_ hH ?_
          rotate_left
          · intro W hW; (try dsimp only at hW); go_simp <;> with_reducible rfl
          simp only [Act.put, List.setIfInBounds_toArray, List.set_cons_zero, List.set_cons_succ]
          refine hTake (i := 2) (v := ?_) rfl (by kernel_rfl) (by kernel_rfl) (by kernel_rfl) (by rfl) ?_ hH ?_
          rotate_left
          · intro W hW; (try dsimp only at hW); go_simp <;> with_reducible rfl
          simp only [Act.put, List.setIfInBounds_toArray, List.set_cons_zero, List.set_cons_succ]
          refine hTake (i := 3) (v := ?_) rfl (by kernel_rfl) (by kernel_rfl) (by kernel_rfl) (by rfl) ?_ hH ?_
          rotate_left
          · intro W hW; (try dsimp only at hW); go_simp <;> with_reducible rfl
          simp only [Act.put, List.setIfInBounds_toArray, List.set_cons_zero, List.set_cons_succ]
          refine hTake (i := 4) (v := ?_) rfl (by kernel_rfl) (by kernel_rfl) (by kernel_rfl) (by rfl) ?_ hH ?_
          rotate_left
          · intro W hW; (try dsimp only at hW); go_simp <;> with_reducible rfl
          simp only [Act.put, List.setIfInBounds_toArray, List.set_cons_zero, List.set_cons_succ]
          refine hTake (i := 5) (v := ?_) rfl (by kernel_rfl) (by kernel_rfl) (by kernel_rfl) (by rfl) ?_ hH ?_
          rotate_left
          · intro W hW; (try dsimp only at hW); go_simp <;> with_reducible rfl
          simp only [Act.put, List.setIfInBounds_toArray, List.set_cons_zero, List.set_cons_succ]
          refine hTake (i := 6) (v := ?_) rfl (by kernel_rfl) (by kernel_rfl) (by kernel_rfl) (by rfl) ?_ hH ?_
          rotate_left
          · intro W hW; (try dsimp only at hW); go_simp <;> with_reducible rfl
          simp only [Act.put, List.setIfInBounds_toArray, List.set_cons_zero, List.set_cons_succ]
          refine hTake (i := 7) (v := ?_) rfl (by kernel_rfl) (by kernel_rfl) (by kernel_rfl) (by rfl) ?_ hH ?_
          rotate_left
          · intro W hW; (try dsimp only at hW); go_simp <;> with_reducible rfl
          simp only [Act.put, List.setIfInBounds_toArray, List.set_cons_zero, List.set_cons_succ]
          refine hSkip (i := 8) rfl (by kernel_rfl) (by kernel_rfl) (by kernel_rfl) (by rfl) hH ?_
          simp only [Act.put, List.setIfInBounds_toArray, List.set_cons_zero, List.set_cons_succ]
          refine hSkip (i := 9) rfl (by kernel_rfl) (by kernel_rfl) (by kernel_rfl) (by rfl) hH ?_
          simp only [Act.put, List.setIfInBounds_toArray, List.set_cons_zero, List.set_cons_succ]
          refine hSkip (i := 10) rfl (by kernel_rfl) (by kernel_rfl) (by kernel_rfl) (by rfl) hH ?_
          simp only [Act.put, List.setIfInBounds_toArray, List.set_cons_zero, List.set_cons_succ]
          refine hSkip (i := 11) rfl (by kernel_rfl) (by kernel_rfl) (by kernel_rfl) (by rfl) hH ?_
          simp only [Act.put, List.setIfInBounds_toArray, List.set_cons_zero, List.set_cons_succ]
          refine hSkip (i := 12) rfl (by kernel_rfl) (by kernel_rfl) (by kernel_rfl) (by rfl) hH ?_
          simp only [Act.put, List.setIfInBounds_toArray, List.set_cons_zero, List.set_cons_succ]
          refine hSkip (i := 13) rfl (by kernel_rfl) (by kernel_rfl) (by kernel_rfl) (by rfl) hH ?_
          simp only [Act.put, List.setIfInBounds_toArray, List.set_cons_zero, List.set_cons_succ]
          refine hSkip (i := 14) rfl (by kernel_rfl) (by kernel_rfl) (by kernel_rfl) (by rfl) hH ?_
          simp only [Act.put, List.setIfInBounds_toArray, List.set_cons_zero, List.set_cons_succ]
          refine hSkip (i := 15) rfl (by kernel_rfl) (by kernel_rfl) (by kernel_rfl) (by rfl) hH ?_
          simp only [Act.put, List.setIfInBounds_toArray, List.set_cons_zero, List.set_cons_succ]
          refine hSkip (i := 16) rfl (by kernel_rfl) (by kernel_rfl) (by kernel_rfl) (by rfl) hH ?_
          simp only [Act.put, List.setIfInBounds_toArray, List.set_cons_zero, List.set_cons_succ]
          refine hSkip (i := 17) rfl (by kernel_rfl) (by kernel_rfl) (by kernel_rfl) (by rfl) hH ?_
          simp only [Act.put, List.setIfInBounds_toArray, List.set_cons_zero, List.set_cons_succ]
          refine hSkip (i := 18) rfl (by kernel_rfl) (by kernel_rfl) (by kernel_rfl) (by rfl) hH ?_
          simp only [Act.put, List.setIfInBounds_toArray, List.set_cons_zero, List.set_cons_succ]
          refine hSkip (i := 19) rfl (by kernel_rfl) (by kernel_rfl) (by kernel_rfl) (by rfl) hH ?_
          simp only [Act.put, List.setIfInBounds_toArray, List.set_cons_zero, List.set_cons_succ]
          refine hSkip (i := 20) rfl (by kernel_rfl) (by kernel_rfl) (by kernel_rfl) (by rfl) hH ?_
          simp only [Act.put, List.setIfInBounds_toArray, List.set_cons_zero, List.set_cons_succ]
          refine hSkip (i := 21) rfl (by kernel_rfl) (by kernel_rfl) (by kernel_rfl) (by rfl) hH ?_
          simp only [Act.put, List.setIfInBounds_toArray, List.set_cons_zero, List.set_cons_succ]
          refine hTake (i := 22) (v := ?_) rfl (by kernel_rfl) (by kernel_rfl) (by kernel_rfl) (by rfl) ?_ hH ?_
          rotate_left
          · intro W hW; (try dsimp only at hW); go_simp <;> with_reducible rfl
          simp only [Act.put, List.setIfInBounds_toArray, List.set_cons_zero, List.set_cons_succ]
          refine wpAnyH_done (by kernel_rfl) ?_ _
          refine NoPanic.normal ?_
          have u2 := hH.2.1
          have z0 := hH.2.2.1
          have z1 := hH.2.2.2.1
          have lU0 := hH.2.2.2.2.1
          have kU0 := hH.2.2.2.2.2
          clear hH
          clear x1 x2 hB ll
          generalize wr.drew = U0 at *
          obtain ⟨oE, kE, lE⟩ := alloc_empty U0 110 2
          have e2 := keep_cell kE u2
          have kW1 := kU0.trans (kE.mono (by omega))
          have lW1 : w.heap.size < (U0.alloc (.cells #[] 110)).heap.size := by omega
          have oE := owns_base (base' := w.heap.size + 1) oE (by omega)
          have hC1 := ((cells_take (k := k * 2) h4 (by omega)).below kW1)
          have hs0 : 0 + k ≤ 4194304 := by omega
          have hb0 : w.heap.size + 1 ≤ (U0.alloc (.cells #[] 110)).heap.size := by omega
          go_wp2_with (at_builtin
                       go_must (refine wpList_appX Try.underlying72 Try.underlying72 gi0 gz0 gz1 gz2 rfl (by omega) (by omega) (.tmp 32) (.tmp 38) ?_ ?_ (w.heap.size + 1) (.slice (some ⟨U0.heap.size, 0, none⟩) 0 0) 0 [] (some ⟨g, 0, none⟩) k cq ((hcells qs).take (k * 2)) ?_ ?_ oE hC1 h1a hs0 hb0 ?_; exact rfl; exact rfl; exact rfl; exact rfl; intro a5 c5 w5 own5 gr5 at5)
                       simp only [Nat.zero_add, List.nil_append] at own5 ⊢)
          have k5 : Below w.heap.size w w5 := kW1.grown gr5 kW1.size (fun g hg => by have := (owns_lt oE g hg).1; omega)
          have l5 : w.heap.size < w5.heap.size := Nat.lt_of_lt_of_le lW1 gr5.size
          have hH : w5.cell? ⟨o, p * 3 + 2, none⟩ = some (.slice (some ⟨g, 0, none⟩) k cq) ∧ w5.cell? ⟨w.heap.size, 0, none⟩ = some (.int .i64 t) ∧ w5.cell? ⟨w.heap.size, 1, none⟩ = some (.int .i64 m) := ⟨grown_cell gr5 e2 (fun e => by have := (owns_lt oE _ e).1; omega), grown_cell gr5 (keep_cell kE z0) (fun e => by have := (owns_lt oE _ e).1; omega), grown_cell gr5 (keep_cell kE z1) (fun e => by have := (owns_lt oE _ e).1; omega)⟩
          clear gr5 at5 oE kE lE hC1 kW1 lW1 e2 u2 z0 z1
          refine wp_region_noPanic ?_
          refine wp_region_held_drew (S := fun W' => W'.cell? ⟨o, p * 3 + 2, none⟩ = some (.slice (some ⟨g, 0, none⟩) k cq) ∧ W'.cell? ⟨w.heap.size, 0, none⟩ = some (.int .i64 t) ∧ W'.cell? ⟨w.heap.size, 1, none⟩ = some (.int .i64 m)) (by kernel_rfl) (hH) (fun hH => ?_)
          have kX : Below w.heap.size w w5.drew := k5.drew
          have lX : w.heap.size < w5.drew.heap.size := l5
          have own5 := owns_below own5 ((Below.refl _ _).drew : Below w5.heap.size w5 w5.drew)
          generalize w5.drew = X at *
          refine hTake (i := 0) (v := ?_) rfl (by kernel_rfl) (by kernel_rfl) (by kernel_rfl) (by rfl) ?_ hH ?_
          rotate_left
          · intro W hW; (try dsimp only at hW); go_simp <;> with_reducible rfl
          simp only [Act.put, List.setIfInBounds_toArray, List.set_cons_zero, List.set_cons_succ]
          refine hTake (i := 1) (v := ?_) rfl (by kernel_rfl) (by kernel_rfl) (by kernel_rfl) (by rfl) ?_ hH ?_
          rotate_left
          · intro W hW; (try dsimp only at hW); go_simp <;> with_reducible rfl
          simp only [Act.put, List.setIfInBounds_toArray, List.set_cons_zero, List.set_cons_succ]
          refine hTake (i := 4) (v := ?_) rfl (by kernel_rfl) (by kernel_rfl) (by kernel_rfl) (by rfl) ?_ hH ?_
          rotate_left
          · intro W hW; (try dsimp only at hW); go_simp <;> with_reducible rfl
          simp only [Act.put, List.setIfInBounds_toArray, List.set_cons_zero, List.set_cons_succ]
          refine hTake (i := 5) (v := ?_) rfl (by kernel_rfl) (by kernel_rfl) (by kernel_rfl) (by rfl) ?_ hH ?_
          rotate_left
          · intro W hW; (try dsimp only at hW); go_simp <;> with_reducible rfl
          simp only [Act.put, List.setIfInBounds_toArray, List.set_cons_zero, List.set_cons_succ]
          refine hTake (i := 6) (v := ?_) rfl (by kernel_rfl) (by kernel_rfl) (by kernel_rfl) (by rfl) ?_ hH ?_
          rotate_left
          · intro W hW; (try dsimp only at hW); go_simp <;> with_reducible rfl
          simp only [Act.put, List.setIfInBounds_toArray, List.set_cons_zero, List.set_cons_succ]
          refine hTake (i := 7) (v := ?_) rfl (by kernel_rfl) (by kernel_rfl) (by kernel_rfl) (by rfl) ?_ hH ?_
          rotate_left
          · intro W hW; (try dsimp only at hW); go_simp <;> with_reducible rfl
          simp only [Act.put, List.setIfInBounds_toArray, List.set_cons_zero, List.set_cons_succ]
          refine hTake (i := 8) (v := ?_) rfl (by kernel_rfl) (by kernel_rfl) (by kernel_rfl) (by rfl) ?_ hH ?_
          rotate_left
          · intro W hW; (try dsimp only at hW); go_simp <;> with_reducible rfl
          simp only [Act.put, List.setIfInBounds_toArray, List.set_cons_zero, List.set_cons_succ]
          refine hTake (i := 9) (v := ?_) rfl (by kernel_rfl) (by kernel_rfl) (by kernel_rfl) (by rfl) ?_ hH ?_
          rotate_left
          · intro W hW; (try dsimp only at hW); go_simp <;> with_reducible rfl
          simp only [Act.put, List.setIfInBounds_toArray, List.set_cons_zero, List.set_cons_succ]
          have kN : Below X.heap.size X (X.alloc (.cells #[.int .i64 t, .int .i64 m] 110)) := (Below.refl _ _).alloc (Nat.le_refl _) _
          have hCN := new_hold X t m 110
          refine wpAnyH_ready (rs := [2]) (by kernel_rfl) (by simp) ?_
          refine AllReadyH.cons rfl (fun K hK => ?_) AllReadyH.nil
          go_simp
          refine hK.out _ _ ⟨keep_cell kN hH.1, keep_cell kN hH.2.1, keep_cell kN hH.2.2⟩ (fun hH => ?_)
          clear hK K
          have kX1 := kX.trans (kN.mono (by omega))
          have lX1 : w.heap.size < (X.alloc (.cells #[.int .i64 t, .int .i64 m] 110)).heap.size := Nat.lt_of_lt_of_le lX kN.size
          have own5 := owns_below own5 kN
          refine wpAnyH_ready (rs := [3]) (by kernel_rfl) (by simp) ?_
          refine AllReadyH.cons rfl (fun K hK => ?_) AllReadyH.nil
          refine step_appX Try.underlying72 Try.underlying72 gi0 gz0 gz1 gz2 rfl (by omega) (by omega) (.tmp 40) (.tmp 42) rfl rfl (w.heap.size + 1) (.slice a5 k c5) k ((hcells qs).take (k * 2)) _ 1 1 (hcells [⟨t, m⟩]) rfl rfl own5 hCN (hcells_one' _) (by omega) (by omega) ?_
          intro a7 c7 w7 own7 gr7 at7
          have k7 : Below w.heap.size w w7 := kX1.grown gr7 kX1.size (fun g hg => by have := (owns_lt own5 g hg).1; omega)
          have l7 : w.heap.size < w7.heap.size := Nat.lt_of_lt_of_le lX1 gr7.size
          refine hK.out _ _ ⟨grown_cell gr7 hH.1 (fun e => by have := (owns_lt own5 _ e).1; omega), grown_cell gr7 hH.2.1 (fun e => by have := (owns_lt own5 _ e).1; omega), grown_cell gr7 hH.2.2 (fun e => by have := (owns_lt own5 _ e).1; omega)⟩ (fun hH => ?_)
          clear hK K gr7 at7 own5 kX1 lX1 hCN kN
          simp only [Act.put, List.setIfInBounds_toArray, List.set_cons_zero, List.set_cons_succ]
          have hC2 := CellsAt.below (by have := cells_drop h4 (k := k * 2) (by omega); rw [Nat.zero_add, Nat.sub_self] at this; exact this) k7
          refine wpAnyH_ready (rs := [10]) (by kernel_rfl) (by simp) ?_
          refine AllReadyH.cons rfl (fun K hK => ?_) AllReadyH.nil
          refine step_appX Try.underlying72 Try.underlying72 gi0 gz0 gz1 gz2 rfl (by omega) (by omega) (.tmp 43) (.tmp 49) rfl rfl (w.heap.size + 1) (.slice a7 (k + 1) c7) (k + 1) _ (some ⟨g, k * 2, none⟩) 0 (cq - k) ((hcells qs).drop (k * 2)) rfl rfl own7 hC2 h1b (by omega) (by omega) ?_
          intro a8 c8 w8 own8 gr8 at8
          have k8 : Below w.heap.size w w8 := k7.grown gr8 k7.size (fun g hg => by have := (owns_lt own7 g hg).1; omega)
          refine hK.out _ _ ⟨grown_cell gr8 hH.1 (fun e => by have := (owns_lt own7 _ e).1; omega), grown_cell gr8 hH.2.1 (fun e => by have := (owns_lt own7 _ e).1; omega), grown_cell gr8 hH.2.2 (fun e => by have := (owns_lt own7 _ e).1; omega)⟩ (fun hH => ?_)
          clear hK K gr8 at8 own7 k7 l7 hC2
          simp only [Act.put, List.setIfInBounds_toArray, List.set_cons_zero, List.set_cons_succ]
          refine hTake (i := 11) (v := ?_) rfl (by kernel_rfl) (by kernel_rfl) (by kernel_rfl) (by rfl) ?_ hH ?_
          rotate_left
          · intro W hW; (try dsimp only at hW); go_simp <;> with_reducible rfl
          simp only [Act.put, List.setIfInBounds_toArray, List.set_cons_zero, List.set_cons_succ]
          refine wpAnyH_done (by kernel_rfl) ?_ _
          refine NoPanic.normal ?_
          have en : k + 1 + 0 = k + 1 := by omega
          simp only [en] at own8 ⊢
          rw [← hcells_take, ← hcells_drop, ← hcells_append, ← hcells_append] at own8
          have O8 := hid (owns_base (base' := w.heap.size) own8 (by omega))
          clear own8
          go_wp2
          exact bodyPost_ret (v := .slice a8 (k + 1) c8) (by simp [results, Try.results95, go_sem]) rfl ⟨_, _, rfl, by
            rw [HCV.out]
            first | exact O8.out | (have h9 := O8.out; simp only [List.append_assoc, List.cons_append, List.nil_append] at h9; exact h9), k8⟩

end Go.Proofs.Yteblnejpohjjmaa
