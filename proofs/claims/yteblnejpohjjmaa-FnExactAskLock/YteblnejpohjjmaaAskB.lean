/- enter: one more in a lock's queue. -/
import Derived.Test.YteblnejpohjjmaaAskA
namespace Go.Proofs.Yteblnejpohjjmaa
open Go.RowKit

theorem hcells_drop (hs : List Ch.Hold) (k : Nat) : hcells (hs.drop k) = (hcells hs).drop (k * 2) := by
  rcases Nat.lt_or_ge hs.length k with h | h
  · rw [List.drop_of_length_le (by omega), List.drop_of_length_le (by rw [hcells_len]; omega)]; rfl
  · have e : hcells hs = hcells (hs.take k) ++ hcells (hs.drop k) := by rw [← hcells_append, List.take_append_drop]
    have hl : (hcells (hs.take k)).length = k * 2 := by rw [hcells_len]; simp; omega
    rw [e]
    exact (List.drop_left' hl).symm
theorem Ch.lk_same (ls : List Ch.Lock) (k : Nat) : ls.set k (Ch.lkAt ls k) = ls := by
  rcases Nat.lt_or_ge k ls.length with h | h
  · unfold Ch.lkAt
    rw [List.getD_eq_getElem?_getD, List.getElem?_eq_getElem h]
    simp
  · exact List.set_eq_of_length_le h
theorem Ch.enter_full {l : Ch.Lock} {k : Nat} {h : Ch.Hold} (hq : 20 ≤ l.qs.length) : Ch.enterL l k h = (false, 2, l) := by unfold Ch.enterL; rw [if_pos hq]
theorem Ch.enter_room {l : Ch.Lock} {k : Nat} {h : Ch.Hold} (hq : ¬ 20 ≤ l.qs.length) : Ch.enterL l k h = (false, 0, ⟨l.r, l.hs, l.qs.take k ++ [h] ++ l.qs.drop k⟩) := by unfold Ch.enterL; rw [if_neg hq]

set_option linter.unusedSimpArgs false in
set_option maxRecDepth 20000 in
set_option maxHeartbeats 1000000 in
theorem enter_any (t m : Int) (j : Nat) (B o n cap k : Nat) (ls : List Ch.Lock) (vs : List (Value × Value)) (w : World) (own : OwnK 77 w B (.slice (some ⟨o, 0, none⟩) n cap) n ls vs) (hk : k < n) (hB : B ≤ w.heap.size) (hszh : (Ch.lkAt ls k).hs.length ≤ 1048576) (hszq : (Ch.lkAt ls k).qs.length ≤ 1048576) (hj : j ≤ (Ch.lkAt ls k).qs.length) :
    Calls Try.prog 83 #[.pointer (some ⟨o, k * 3 + 2, none⟩), .int .i64 j, .agg #[.int .i64 t, .int .i64 m]] w fun e w' => e = .returned (.int .i64 (Ch.enterL (Ch.lkAt ls k) j ⟨t, m⟩).2.1) ∧ ∃ vs', OwnK 77 w' B (.slice (some ⟨o, 0, none⟩) n cap) n (ls.set k (Ch.enterL (Ch.lkAt ls k) j ⟨t, m⟩).2.2) vs' ∧ Moved (.slice (some ⟨o, 0, none⟩) n cap) vs vs' w w' := by
  have HSM := hid (Ch.lk_same ls k)
  obtain ⟨ah, ch, aq, cq, hp, c0, c1, c2, f1, f2, o1, o2, ne, nr, ob1, ob2⟩ := own.one hk
  obtain ⟨l, HLK⟩ : ∃ l, Hid (Ch.lkAt ls k = l) := ⟨_, rfl⟩
  have hr0 : Hid ((Ch.lkAt ls k).r = l.r) := by show _ = _; rw [HLK.out]
  rw [HLK.out] at hp c0 c1 c2 o1 o2 ne nr hszh hszq hj HSM ⊢
  obtain ⟨r, lhs, lqs⟩ := l
  simp only at hp c0 c1 c2 o1 o2 ne nr hszh hszq hr0 hj
  have kA : ∀ q, Below w.heap.size w (w.alloc q) := fun q => (Below.refl _ _).alloc (Nat.le_refl _) q
  have lo := lt_of_cell c0
  by_cases h20 : 20 ≤ lqs.length
  · rw [Ch.enter_full (l := ⟨r, lhs, lqs⟩) h20]
    simp only
    rw [HSM.out]
    have e2 := keep_cell (kA (.cells #[.int .i64 t, .int .i64 m] 110)) c2
    have mv := hid (Moved.ofBelow (v := .slice (some ⟨o, 0, none⟩) n cap) (vs := vs) (kA (.cells #[.int .i64 t, .int .i64 m] 110)))
    have ownU := hid (own.below (kA (.cells #[.int .i64 t, .int .i64 m] 110)))
    go_enter Try.func83, Try.ntmps83
    go_wp2
    exact bodyPost_ret (v := .int .i64 2) (by simp [results, Try.results83, go_sem]) rfl ⟨rfl, _, ownU.out, mv.out⟩
  · rw [Ch.enter_room (l := ⟨r, lhs, lqs⟩) h20]
    simp only
    have HB := hid hB
    go_enter Try.func83, Try.ntmps83
    have c2' := keep_cell (kA (.cells #[.int .i64 t, .int .i64 m] 110)) c2
    go_wp2_with fail
    have y0 : (w.alloc (.cells #[.int .i64 t, .int .i64 m] 110)).cell? ⟨w.heap.size, 0, none⟩ = some (.int .i64 t) := by simp [go_sem]
    have y1 : (w.alloc (.cells #[.int .i64 t, .int .i64 m] 110)).cell? ⟨w.heap.size, 1, none⟩ = some (.int .i64 m) := by simp [go_sem]
    have kU := kA (.cells #[.int .i64 t, .int .i64 m] 110)
    generalize w.alloc (.cells #[.int .i64 t, .int .i64 m] 110) = U at *
    have kV : Below w.heap.size w U.drew := kU.drew
    have dd1 : U.drew.cell? ⟨o, k * 3 + 2, none⟩ = some (.slice aq lqs.length cq) := c2'
    have ff1 : U.drew.frozen? ⟨o, k * 3 + 2, none⟩ = false := ((bcell kU).2 o (k * 3 + 2) ob2).trans f2
    refine wp_region_noPanic ?_
    refine wp_region_held_drew (S := fun W' => W'.cell? ⟨w.heap.size, 0, none⟩ = some (.int .i64 t) ∧ W'.cell? ⟨w.heap.size, 1, none⟩ = some (.int .i64 m)) (by kernel_rfl) (⟨y0, y1⟩) (fun hH => ?_)
    generalize U.drew = V at *
    clear kU c2' y0 y1 U
    have hH0 := hH
    have lo2 : o < V.heap.size := lt_of_cell dd1
    have kN : Below V.heap.size V (V.alloc (.cells #[.int .i64 t, .int .i64 m] 110)) := (Below.refl _ _).alloc (Nat.le_refl _) _
    have kT : Below w.heap.size w (V.alloc (.cells #[.int .i64 t, .int .i64 m] 110)) := kV.alloc kV.size _
    have oN := owns_below o2 kT
    have hb3 : B ≤ (V.alloc (.cells #[.int .i64 t, .int .i64 m] 110)).heap.size := Nat.le_trans HB.out kT.size
    have hbx : (Value.slice aq lqs.length cq).ownBlock ≠ some w.heap.size := fun e => by have := (owns_lt o2 _ e).2; omega
    have hvb : (Value.slice aq lqs.length cq).ownBlock ≠ some V.heap.size := fun e => by have h1 := (owns_lt o2 _ e).2; have h2 := kV.size; omega
    refine hTake (i := 0) (v := ?_) rfl (by kernel_rfl) (by kernel_rfl) (by kernel_rfl) (by rfl) ?_ hH ?_
    rotate_left
    · intro W hW; (try dsimp only at hW); go_simp <;> with_reducible rfl
    simp only [Act.put, List.setIfInBounds_toArray, List.set_cons_zero, List.set_cons_succ]
    refine hTake (i := 1) (v := ?_) rfl (by kernel_rfl) (by kernel_rfl) (by kernel_rfl) (by rfl) ?_ hH ?_
    rotate_left
    · intro W hW; (try dsimp only at hW); go_simp <;> with_reducible rfl
    simp only [Act.put, List.setIfInBounds_toArray, List.set_cons_zero, List.set_cons_succ]
    refine hTake (i := 2) (v := ?_) rfl (by kernel_rfl) (by kernel_rfl) (by kernel_rfl) (by rfl) ?_ hH ?_
    rotate_left
    · intro W hW; (try dsimp only at hW); go_simp <;> with_reducible rfl
    simp only [Act.put, List.setIfInBounds_toArray, List.set_cons_zero, List.set_cons_succ]
    refine hTake (i := 3) (v := ?_) rfl (by kernel_rfl) (by kernel_rfl) (by kernel_rfl) (by rfl) ?_ hH ?_
    rotate_left
    · intro W hW; (try dsimp only at hW); go_simp <;> with_reducible rfl
    simp only [Act.put, List.setIfInBounds_toArray, List.set_cons_zero, List.set_cons_succ]
    refine hTake (i := 5) (v := ?_) rfl (by kernel_rfl) (by kernel_rfl) (by kernel_rfl) (by rfl) ?_ hH ?_
    rotate_left
    · intro W hW; (try dsimp only at hW); go_simp <;> with_reducible rfl
    simp only [Act.put, List.setIfInBounds_toArray, List.set_cons_zero, List.set_cons_succ]
    refine hTake (i := 6) (v := ?_) rfl (by kernel_rfl) (by kernel_rfl) (by kernel_rfl) (by rfl) ?_ hH ?_
    rotate_left
    · intro W hW; (try dsimp only at hW); go_simp <;> with_reducible rfl
    simp only [Act.put, List.setIfInBounds_toArray, List.set_cons_zero, List.set_cons_succ]
    refine wpAnyH_ready (rs := [4, 7]) (by kernel_rfl) (by simp) ?_
    refine AllReadyH.cons rfl (fun K hK => ?_) (AllReadyH.cons rfl (fun K hK => ?_) AllReadyH.nil)
    · have e1 : V.cell? ⟨o, k * 3 + 2, none⟩ = some (.slice aq lqs.length cq) := dd1
      go_simp
      refine hK.out _ _ hH (fun hH => ?_)
      clear hK K
      refine wpAnyH_ready (rs := [7]) (by kernel_rfl) (by simp) ?_
      refine AllReadyH.cons rfl (fun K hK => ?_) AllReadyH.nil
      go_simp
      refine hK.out _ _ ⟨keep_cell kN hH.1, keep_cell kN hH.2⟩ (fun hH => ?_)
      clear hK K
      refine wpAnyH_ready (rs := [8]) (by kernel_rfl) (by simp) ?_
      refine AllReadyH.cons rfl (fun K hK => ?_) AllReadyH.nil
      go_simp
      refine (insertH_any B aq lqs.length cq j V.heap.size (hcells lqs) [.int .i64 t, .int .i64 m] _ oN (heap_alloc_new _ _) rfl (hcells_one' [⟨t, m⟩]) (hcells_one' lqs) hszq hj hb3 hvb).mono ?_
      rintro e w5 ⟨a5, c5, rfl, own5, gr5, at5⟩
      have d1 := (grown_cell gr5 (keep_cell kN dd1) (fun e => nr (by simp [blks, e])))
      have g1 := (gr5.frozen_far ⟨o, k * 3 + 2, none⟩ (Nat.lt_of_lt_of_le lo2 kN.size) (by show some o ≠ _; exact fun e => nr (by simp [blks, e.symm]))).trans (((bcell kN).2 o (k * 3 + 2) lo2).trans ff1)
      have lo5 := lt_of_cell d1
      go_wp2_with fail
      refine hK.out _ _ ⟨grown_cell gr5 (keep_cell kN hH0.1) hbx, grown_cell gr5 (keep_cell kN hH0.2) hbx⟩ (fun hH => ?_)
      clear hK K
      refine hTake (i := 9) (v := ?_) rfl (by kernel_rfl) (by kernel_rfl) (by kernel_rfl) (by rfl) ?_ hH ?_
      rotate_left
      · intro W hW; (try dsimp only at hW); go_simp <;> with_reducible rfl
      simp only [Act.put, List.setIfInBounds_toArray, List.set_cons_zero, List.set_cons_succ]
      refine hTake (i := 10) (v := ?_) rfl (by kernel_rfl) (by kernel_rfl) (by kernel_rfl) (by rfl) ?_ hH ?_
      rotate_left
      · intro W hW; (try dsimp only at hW); go_simp <;> with_reducible rfl
      simp only [Act.put, List.setIfInBounds_toArray, List.set_cons_zero, List.set_cons_succ]
      refine wpAnyH_ready (rs := [11]) (by kernel_rfl) (by simp) ?_
      refine AllReadyH.cons rfl (fun K hK => ?_) AllReadyH.nil
      go_simp
      refine hK.out _ _ (by first | (go_simp; done) | exact ⟨by rw [World.cell?_setCell_other _ _ _ _ (by simp; omega)]; exact hH.1, by rw [World.cell?_setCell_other _ _ _ _ (by simp; omega)]; exact hH.2⟩) (fun hH => ?_)
      clear hK K
      refine wpAnyH_done (by kernel_rfl) ?_ _
      refine NoPanic.normal ?_
      rw [show [Value.int .i64 t, .int .i64 m] = hcells [⟨t, m⟩] from rfl, ← hcells_take, ← hcells_drop, ← hcells_append, ← hcells_append] at own5
      have grT : w.grownBy w5 (Value.slice aq lqs.length cq).ownBlock := ⟨gr5.os.trans kT.os, gr5.tape.trans kT.tape, gr5.output.trans kT.output, Nat.le_trans kT.size gr5.size, fun q hq hne => (gr5.block q (Nat.lt_of_lt_of_le hq kT.size) hne).trans (kT.block q hq)⟩
      have hf : ∀ g ∈ blks (.slice ah lhs.length ch, .slice a5 (lqs.length + 1) c5), g ∈ blks (.slice ah lhs.length ch, .slice aq lqs.length cq) ∨ w.heap.size ≤ g := by
        intro g hg
        simp only [blks, List.mem_append, Option.mem_toList] at hg ⊢
        rcases hg with hg | hg
        · exact .inl (.inl hg)
        · rcases at5 g hg with h1 | h1
          · exact .inl (.inr h1)
          · exact .inr (Nat.le_trans kT.size h1)
      have o1' : w5.ownsRow B 110 2 (.slice ah lhs.length ch) lhs.length (hcells lhs) := owns_grown o1 grT (fun g hg e => ne g hg e)
      have hlen : (lqs.take j ++ ([⟨t, m⟩] : List Ch.Hold) ++ lqs.drop j).length = lqs.length + 1 := by simp; omega
      have own6 := hid (own.swap (j := 2) (z := .slice a5 (lqs.length + 1) c5) hp grT (fun g hg => by simp [blks, hg]) (l := ⟨r, lhs, lqs.take j ++ [⟨t, m⟩] ++ lqs.drop j⟩) hr0.out.symm o1' (by simp only [hlen]; exact own5) (fun g h1 h2 => by
        rcases at5 g h2 with h3 | h3
        · exact ne g h1 h3
        · exact absurd (owns_lt o1 g h1).2 (Nat.not_lt_of_le (Nat.le_trans kT.size h3))) hf (.inr ⟨rfl, rfl, rfl⟩))
      have hst := (owns_grown own.row grT (fun g hg e => by cases hg; exact nr (by simp [blks, e]))).stored (k * 3 + 2) (.slice a5 (lqs.length + 1) c5)
      have mv := hid (moved_two (v := .slice (some ⟨o, 0, none⟩) n cap) (vs' := vs.set k (.slice ah lhs.length ch, .slice a5 (lqs.length + 1) c5)) hp rfl grT hst.2 (fun g hg => by simp [blks, hg]) rfl hf)
      clear own5 hf hst grT gr5 at5 o1'
      go_wp2
      exact bodyPost_ret (v := .int .i64 0) (by simp [results, Try.results83, go_sem]) rfl ⟨rfl, _, own6.out, mv.out⟩
    · go_simp
      refine hK.out _ _ ⟨keep_cell kN hH.1, keep_cell kN hH.2⟩ (fun hH => ?_)
      clear hK K
      refine wpAnyH_ready (rs := [4]) (by kernel_rfl) (by simp) ?_
      refine AllReadyH.cons rfl (fun K hK => ?_) AllReadyH.nil
      have e1 := keep_cell kN dd1
      go_simp
      refine hK.out _ _ hH (fun hH => ?_)
      clear hK K
      refine wpAnyH_ready (rs := [8]) (by kernel_rfl) (by simp) ?_
      refine AllReadyH.cons rfl (fun K hK => ?_) AllReadyH.nil
      go_simp
      refine (insertH_any B aq lqs.length cq j V.heap.size (hcells lqs) [.int .i64 t, .int .i64 m] _ oN (heap_alloc_new _ _) rfl (hcells_one' [⟨t, m⟩]) (hcells_one' lqs) hszq hj hb3 hvb).mono ?_
      rintro e w5 ⟨a5, c5, rfl, own5, gr5, at5⟩
      have d1 := (grown_cell gr5 (keep_cell kN dd1) (fun e => nr (by simp [blks, e])))
      have g1 := (gr5.frozen_far ⟨o, k * 3 + 2, none⟩ (Nat.lt_of_lt_of_le lo2 kN.size) (by show some o ≠ _; exact fun e => nr (by simp [blks, e.symm]))).trans (((bcell kN).2 o (k * 3 + 2) lo2).trans ff1)
      have lo5 := lt_of_cell d1
      go_wp2_with fail
      refine hK.out _ _ ⟨grown_cell gr5 (keep_cell kN hH0.1) hbx, grown_cell gr5 (keep_cell kN hH0.2) hbx⟩ (fun hH => ?_)
      clear hK K
      refine hTake (i := 9) (v := ?_) rfl (by kernel_rfl) (by kernel_rfl) (by kernel_rfl) (by rfl) ?_ hH ?_
      rotate_left
      · intro W hW; (try dsimp only at hW); go_simp <;> with_reducible rfl
      simp only [Act.put, List.setIfInBounds_toArray, List.set_cons_zero, List.set_cons_succ]
      refine hTake (i := 10) (v := ?_) rfl (by kernel_rfl) (by kernel_rfl) (by kernel_rfl) (by rfl) ?_ hH ?_
      rotate_left
      · intro W hW; (try dsimp only at hW); go_simp <;> with_reducible rfl
      simp only [Act.put, List.setIfInBounds_toArray, List.set_cons_zero, List.set_cons_succ]
      refine wpAnyH_ready (rs := [11]) (by kernel_rfl) (by simp) ?_
      refine AllReadyH.cons rfl (fun K hK => ?_) AllReadyH.nil
      go_simp
      refine hK.out _ _ (by first | (go_simp; done) | exact ⟨by rw [World.cell?_setCell_other _ _ _ _ (by simp; omega)]; exact hH.1, by rw [World.cell?_setCell_other _ _ _ _ (by simp; omega)]; exact hH.2⟩) (fun hH => ?_)
      clear hK K
      refine wpAnyH_done (by kernel_rfl) ?_ _
      refine NoPanic.normal ?_
      rw [show [Value.int .i64 t, .int .i64 m] = hcells [⟨t, m⟩] from rfl, ← hcells_take, ← hcells_drop, ← hcells_append, ← hcells_append] at own5
      have grT : w.grownBy w5 (Value.slice aq lqs.length cq).ownBlock := ⟨gr5.os.trans kT.os, gr5.tape.trans kT.tape, gr5.output.trans kT.output, Nat.le_trans kT.size gr5.size, fun q hq hne => (gr5.block q (Nat.lt_of_lt_of_le hq kT.size) hne).trans (kT.block q hq)⟩
      have hf : ∀ g ∈ blks (.slice ah lhs.length ch, .slice a5 (lqs.length + 1) c5), g ∈ blks (.slice ah lhs.length ch, .slice aq lqs.length cq) ∨ w.heap.size ≤ g := by
        intro g hg
        simp only [blks, List.mem_append, Option.mem_toList] at hg ⊢
        rcases hg with hg | hg
        · exact .inl (.inl hg)
        · rcases at5 g hg with h1 | h1
          · exact .inl (.inr h1)
          · exact .inr (Nat.le_trans kT.size h1)
      have o1' : w5.ownsRow B 110 2 (.slice ah lhs.length ch) lhs.length (hcells lhs) := owns_grown o1 grT (fun g hg e => ne g hg e)
      have hlen : (lqs.take j ++ ([⟨t, m⟩] : List Ch.Hold) ++ lqs.drop j).length = lqs.length + 1 := by simp; omega
      have own6 := hid (own.swap (j := 2) (z := .slice a5 (lqs.length + 1) c5) hp grT (fun g hg => by simp [blks, hg]) (l := ⟨r, lhs, lqs.take j ++ [⟨t, m⟩] ++ lqs.drop j⟩) hr0.out.symm o1' (by simp only [hlen]; exact own5) (fun g h1 h2 => by
        rcases at5 g h2 with h3 | h3
        · exact ne g h1 h3
        · exact absurd (owns_lt o1 g h1).2 (Nat.not_lt_of_le (Nat.le_trans kT.size h3))) hf (.inr ⟨rfl, rfl, rfl⟩))
      have hst := (owns_grown own.row grT (fun g hg e => by cases hg; exact nr (by simp [blks, e]))).stored (k * 3 + 2) (.slice a5 (lqs.length + 1) c5)
      have mv := hid (moved_two (v := .slice (some ⟨o, 0, none⟩) n cap) (vs' := vs.set k (.slice ah lhs.length ch, .slice a5 (lqs.length + 1) c5)) hp rfl grT hst.2 (fun g hg => by simp [blks, hg]) rfl hf)
      clear own5 hf hst grT gr5 at5 o1'
      go_wp2
      exact bodyPost_ret (v := .int .i64 0) (by simp [results, Try.results83, go_sem]) rfl ⟨rfl, _, own6.out, mv.out⟩

end Go.Proofs.Yteblnejpohjjmaa
