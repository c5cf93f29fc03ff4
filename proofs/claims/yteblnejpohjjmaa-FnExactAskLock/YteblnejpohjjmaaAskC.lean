/- ask: a lock asked for, of the program. -/
import Derived.Test.YteblnejpohjjmaaAskB
import Derived.Test.YteblnejpohjjmaaJoiI
namespace Go.Proofs.Yteblnejpohjjmaa
open Go.RowKit

theorem Ch.ask_cov {l : Ch.Lock} {t m : Int} (h : Ch.covers (Ch.modeH l.hs t) m = true) : Ch.askOne l t m = (true, 0, l) := by unfold Ch.askOne; rw [if_pos h]
theorem Ch.ask_end {l : Ch.Lock} {t m : Int} (h : Ch.covers (Ch.modeH l.hs t) m = false) (h2 : (Ch.modeH l.hs t == 0 && (!Ch.fitsH l.hs t (Ch.join (Ch.modeH l.hs t) m) || decide (0 < l.qs.length))) = true) : Ch.askOne l t m = Ch.enterL l l.qs.length ⟨t, Ch.join (Ch.modeH l.hs t) m⟩ := by unfold Ch.askOne; rw [if_neg (by simp [h]), if_pos h2]
theorem Ch.ask_conv {l : Ch.Lock} {t m : Int} (h : Ch.covers (Ch.modeH l.hs t) m = false) (h2 : (Ch.modeH l.hs t == 0 && (!Ch.fitsH l.hs t (Ch.join (Ch.modeH l.hs t) m) || decide (0 < l.qs.length))) = false) (h3 : Ch.fitsH l.hs t (Ch.join (Ch.modeH l.hs t) m) = false) : Ch.askOne l t m = Ch.enterL l (Ch.convH l.hs l.qs) ⟨t, Ch.join (Ch.modeH l.hs t) m⟩ := by unfold Ch.askOne; rw [if_neg (by simp [h]), if_neg (by simp [h2]), if_pos (by simp [h3])]
theorem Ch.ask_full {l : Ch.Lock} {t m : Int} (h : Ch.covers (Ch.modeH l.hs t) m = false) (h2 : (Ch.modeH l.hs t == 0 && (!Ch.fitsH l.hs t (Ch.join (Ch.modeH l.hs t) m) || decide (0 < l.qs.length))) = false) (h3 : Ch.fitsH l.hs t (Ch.join (Ch.modeH l.hs t) m) = true) (h4 : (Ch.hasH l.hs t || decide (l.hs.length < 20)) = false) : Ch.askOne l t m = (false, 2, l) := by unfold Ch.askOne; rw [if_neg (by simp [h]), if_neg (by simp [h2]), if_neg (by simp [h3]), if_pos (by simp [h4])]
theorem Ch.ask_put {l : Ch.Lock} {t m : Int} (h : Ch.covers (Ch.modeH l.hs t) m = false) (h2 : (Ch.modeH l.hs t == 0 && (!Ch.fitsH l.hs t (Ch.join (Ch.modeH l.hs t) m) || decide (0 < l.qs.length))) = false) (h3 : Ch.fitsH l.hs t (Ch.join (Ch.modeH l.hs t) m) = true) (h4 : (Ch.hasH l.hs t || decide (l.hs.length < 20)) = true) : Ch.askOne l t m = (true, 0, ⟨l.r, Ch.putH l.hs ⟨t, Ch.join (Ch.modeH l.hs t) m⟩, l.qs⟩) := by unfold Ch.askOne; rw [if_neg (by simp [h]), if_neg (by simp [h2]), if_neg (by simp [h3]), if_neg (by simp [h4])]
theorem field_intK (j : Int) (W : World) : (Instr.field 32 (.agg #[.int .i64 0, .int .i64 j]) 1).run Try.prog W = .ok (.int .i64 j) W := by kernel_rfl
theorem Ch.enter_false (l : Ch.Lock) (k : Nat) (h : Ch.Hold) : (Ch.enterL l k h).1 = false := by unfold Ch.enterL; split <;> rfl
theorem implCov_at {a b : Int} {v : Bool} (h : Ch.covers a b = v) (w : World) : Calls Try.prog 18 #[.int .i64 a, .int .i64 b] w fun e w' => e = .returned (.bool v) ∧ Below w.heap.size w w' := by
  refine (implCov_any a b w).mono ?_
  rintro e w' ⟨rfl, hb⟩
  exact ⟨by rw [← h]; rfl, hb⟩
theorem implJoin_at {a b : Int} (ha : Ch.isM a = true) (hb : Ch.isM b = true) (w : World) : Calls Try.prog 81 #[.int .i64 a, .int .i64 b] w fun e w' => e = .returned (.agg #[.int .i64 0, .int .i64 (Ch.join a b)]) ∧ Below w.heap.size w w' := implJoin_ok a b w ha hb

set_option linter.unusedSimpArgs false in
set_option maxRecDepth 20000 in
set_option maxHeartbeats 1000000 in
theorem ask_any (t m : Int) (B o n cap k : Nat) (ls : List Ch.Lock) (vs : List (Value × Value)) (w : World) (own : OwnK 77 w B (.slice (some ⟨o, 0, none⟩) n cap) n ls vs) (hk : k < n) (hB : B ≤ w.heap.size) (hszh : (Ch.lkAt ls k).hs.length ≤ 1048576) (hszq : (Ch.lkAt ls k).qs.length ≤ 1048576) (hg : Ch.namesH (Ch.lkAt ls k).hs = true) (hm : Ch.isM m = true) :
    Calls Try.prog 49 #[.pointer (some ⟨o, k * 3, none⟩), .int .i64 t, .int .i64 m] w fun e w' => e = .returned (.tuple #[.bool (Ch.askOne (Ch.lkAt ls k) t m).1, .int .i64 (Ch.askOne (Ch.lkAt ls k) t m).2.1]) ∧ ∃ vs', OwnK 77 w' B (.slice (some ⟨o, 0, none⟩) n cap) n (ls.set k (Ch.askOne (Ch.lkAt ls k) t m).2.2) vs' ∧ Moved (.slice (some ⟨o, 0, none⟩) n cap) vs vs' w w' := by
  have HSM := hid (Ch.lk_same ls k)
  have HHM := hid (Ch.modeH_names hg t).1
  have HM := hid hm
  have HE0 := hid (fun j j' (W : World) (vs1 : List (Value × Value)) own1 hB1 (hj : j' ≤ (Ch.lkAt ls k).qs.length) => enter_any t j j' B o n cap k ls vs1 W own1 hk hB1 hszh hszq hj)
  have HH0 := hid (fun j (W : World) (vs1 : List (Value × Value)) own1 hB1 => hold_any t j B o n cap k ls vs1 W own1 hk hB1 hszh hszq)
  obtain ⟨ah, ch, aq, cq, hp, c0, c1, c2, f1, f2, o1, o2, ne, nr, ob1, ob2⟩ := own.one hk
  obtain ⟨l, HLK⟩ : ∃ l, Hid (Ch.lkAt ls k = l) := ⟨_, rfl⟩
  rw [HLK.out] at c0 c1 c2 o1 o2 hszh hszq HHM HSM HE0 HH0 ⊢
  obtain ⟨r, lhs, lqs⟩ := l
  simp only at c0 c1 c2 o1 o2 hszh hszq HHM
  have h3 := owns_cells o1
  have h4 := owns_cells o2
  clear hp f1 f2 o1 o2 ne nr hg HLK
  have kA : ∀ q, Below w.heap.size w (w.alloc q) := fun q => (Below.refl _ _).alloc (Nat.le_refl _) q
  have HIM := hid (fun W hW => modeOf_any ah lhs.length ch t lhs W hW hszh)
  have HOwn := hid own
  have HB := hid hB
  clear own hB
  cases hcv : Ch.covers (Ch.modeH lhs t) m
  · have HIC := hid (fun W => implCov_at hcv W)
    have HIJ := hid (fun W => implJoin_at HHM.out HM.out W)
    have HIF := hid (fun W hW => fitOthers_any ah lhs.length ch t (Ch.join (Ch.modeH lhs t) m) lhs W hW hszh)
    have HA1 := hid (Ch.ask_end (l := ⟨r, lhs, lqs⟩) (t := t) (m := m) hcv)
    have HA2 := hid (Ch.ask_conv (l := ⟨r, lhs, lqs⟩) (t := t) (m := m) hcv)
    have HA3 := hid (Ch.ask_full (l := ⟨r, lhs, lqs⟩) (t := t) (m := m) hcv)
    have HA4 := hid (Ch.ask_put (l := ⟨r, lhs, lqs⟩) (t := t) (m := m) hcv)
    have HIR := hid (fun W hW => hasRoom_any r ah lhs.length ch aq lqs.length cq t lhs W hW hszh)
    have HCC := hid (fun W hW hW' => convCount_any r ah lhs.length ch aq lqs.length cq lhs lqs W hW hW' hszh hszq)
    have HCL := hid (Ch.conv_le lhs lqs)
    simp only at HA1 HA2 HA3 HA4
    generalize Ch.modeH lhs t = held at *
    generalize Ch.join held m = jm at *
    generalize Ch.fitsH lhs t jm = ft at *
    generalize (Ch.hasH lhs t || decide (lhs.length < 20)) = rm at *
    generalize Ch.convH lhs lqs = cv at *
    clear hcv
    go_enter Try.func49, Try.ntmps49
    go_wp2_with fail
    refine (HIM.out _ h3).mono ?_
    rintro e w1 ⟨rfl, b1⟩
    go_wp2_with fail
    refine (HIC.out _).mono ?_
    rintro e w2 ⟨rfl, b2⟩
    have b2 := b1.trans (b2.mono b1.size)
    clear b1
    go_wp2_with fail
    refine (HIJ.out _).mono ?_
    rintro e w3 ⟨rfl, b3⟩
    have b3 := b2.trans (b3.mono b2.size)
    clear b2
    have hfd := fun W => field_intK jm W
    go_wp2_with fail
    clear hfd
    have kU : Below w.heap.size w (w3.alloc (.cells #[.int .i64 t, .int .i64 jm] 110)) := b3.alloc b3.size _
    have y0 : (w3.alloc (.cells #[.int .i64 t, .int .i64 jm] 110)).cell? ⟨w3.heap.size, 0, none⟩ = some (.int .i64 t) := by simp [go_sem]
    have y1 : (w3.alloc (.cells #[.int .i64 t, .int .i64 jm] 110)).cell? ⟨w3.heap.size, 1, none⟩ = some (.int .i64 jm) := by simp [go_sem]
    have d1 := keep_cell kU c1
    have HBN : Hid (w3.heap.size ∉ (Value.slice (some ⟨o, 0, none⟩) n cap).ownBlock.toList ++ vs.flatMap blks) := fun hmem => by
      have hs3 := b3.size
      rw [List.mem_append] at hmem
      rcases hmem with h2 | h2
      · have := (owns_lt HOwn.out.row _ (by simpa using h2)).2; omega
      · obtain ⟨i, q, hq, hgq⟩ := flat_mem h2
        have := (HOwn.out.bd hq hgq).2; omega
    generalize w3.alloc (.cells #[.int .i64 t, .int .i64 jm] 110) = U at *
    generalize w3.heap.size = bx at *
    clear b3
    refine wp_region_noPanic ?_
    refine wp_region_held_drew (S := fun W' => W'.cell? ⟨o, k * 3 + 1, none⟩ = some (.slice ah lhs.length ch) ∧ W'.cell? ⟨bx, 0, none⟩ = some (.int .i64 t) ∧ W'.cell? ⟨bx, 1, none⟩ = some (.int .i64 jm) ∧ Below w.heap.size w W') (by kernel_rfl) (⟨d1, y0, y1, kU.drew⟩) (fun hH => ?_)
    refine hTake (i := 0) (v := ?_) rfl (by kernel_rfl) (by kernel_rfl) (by kernel_rfl) (by rfl) ?_ hH ?_
    rotate_left
    · intro W hW; (try dsimp only at hW); go_simp <;> with_reducible rfl
    simp only [Act.put, List.setIfInBounds_toArray, List.set_cons_zero, List.set_cons_succ]
    refine hTake (i := 1) (v := ?_) rfl (by kernel_rfl) (by kernel_rfl) (by kernel_rfl) (by rfl) ?_ hH ?_
    rotate_left
    · intro W hW; (try dsimp only at hW); go_simp <;> with_reducible rfl
    simp only [Act.put, List.setIfInBounds_toArray, List.set_cons_zero, List.set_cons_succ]
    refine hTake (i := 2) (v := ?_) rfl (by kernel_rfl) (by kernel_rfl) (by kernel_rfl) (by rfl) ?_ hH ?_
    rotate_left
    · intro W hW; (try dsimp only at hW); go_simp <;> with_reducible rfl
    simp only [Act.put, List.setIfInBounds_toArray, List.set_cons_zero, List.set_cons_succ]
    refine hTake (i := 3) (v := ?_) rfl (by kernel_rfl) (by kernel_rfl) (by kernel_rfl) (by rfl) ?_ hH ?_
    rotate_left
    · intro W hW; (try dsimp only at hW); go_simp <;> with_reducible rfl
    simp only [Act.put, List.setIfInBounds_toArray, List.set_cons_zero, List.set_cons_succ]
    refine hTake (i := 4) (v := ?_) rfl (by kernel_rfl) (by kernel_rfl) (by kernel_rfl) (by rfl) ?_ hH ?_
    rotate_left
    · intro W hW; (try dsimp only at hW); go_simp <;> with_reducible rfl
    simp only [Act.put, List.setIfInBounds_toArray, List.set_cons_zero, List.set_cons_succ]
    refine wpAnyH_ready (rs := [5]) (by kernel_rfl) (by simp) ?_
    refine AllReadyH.cons rfl (fun K hK => ?_) AllReadyH.nil
    go_simp
    refine (HIF.out _ (h3.below hH.2.2.2)).mono ?_
    rintro e w4 ⟨rfl, b4⟩
    go_wp2_with fail
    refine hK.out _ _ ?_ (fun hH => ?_)
    · exact ⟨keep_cell b4 hH.1, keep_cell b4 hH.2.1, keep_cell b4 hH.2.2.1, hH.2.2.2.trans (b4.mono hH.2.2.2.size)⟩
    clear hK K
    refine hTake (i := 6) (v := ?_) rfl (by kernel_rfl) (by kernel_rfl) (by kernel_rfl) (by rfl) ?_ hH ?_
    rotate_left
    · intro W hW; (try dsimp only at hW); go_simp <;> with_reducible rfl
    simp only [Act.put, List.setIfInBounds_toArray, List.set_cons_zero, List.set_cons_succ]
    refine wpAnyH_done (by kernel_rfl) ?_ _
    refine NoPanic.normal ?_
    have kw4 := hH.2.2.2
    have z0 := hH.2.1
    have z1 := hH.2.2.1
    clear hH kU y0 y1 d1
    have g0 := keep_cell kw4 c0
    have g1 := keep_cell kw4 c1
    have g2 := keep_cell kw4 c2
    by_cases h0 : held = 0
    · subst h0
      cases ft
      · have HAA := hid (HA1.out (by simp))
        go_wp2_with fail
        have kV : Below w.heap.size w w4.drew := kw4.drew
        have dd0 : w4.drew.cell? ⟨o, k * 3, none⟩ = some (.int .i64 r) := (keep_cell kw4 c0 :)
        have dd1 : w4.drew.cell? ⟨o, k * 3 + 1, none⟩ = some (.slice ah lhs.length ch) := (keep_cell kw4 c1 :)
        have dd2 : w4.drew.cell? ⟨o, k * 3 + 2, none⟩ = some (.slice aq lqs.length cq) := (keep_cell kw4 c2 :)
        refine wp_region_noPanic ?_
        refine wp_region_held_drew (S := fun W' => W'.cell? ⟨bx, 0, none⟩ = some (.int .i64 t) ∧ W'.cell? ⟨bx, 1, none⟩ = some (.int .i64 jm)) (by kernel_rfl) (⟨z0, z1⟩) (fun hH => ?_)
        generalize w4.drew = V at *
        refine hTake (i := 0) (v := ?_) rfl (by kernel_rfl) (by kernel_rfl) (by kernel_rfl) (by rfl) ?_ hH ?_
        rotate_left
        · intro W hW; (try dsimp only at hW); go_simp <;> with_reducible rfl
        simp only [Act.put, List.setIfInBounds_toArray, List.set_cons_zero, List.set_cons_succ]
        refine hTake (i := 1) (v := ?_) rfl (by kernel_rfl) (by kernel_rfl) (by kernel_rfl) (by rfl) ?_ hH ?_
        rotate_left
        · intro W hW; (try dsimp only at hW); go_simp <;> with_reducible rfl
        simp only [Act.put, List.setIfInBounds_toArray, List.set_cons_zero, List.set_cons_succ]
        refine hTake (i := 2) (v := ?_) rfl (by kernel_rfl) (by kernel_rfl) (by kernel_rfl) (by rfl) ?_ hH ?_
        rotate_left
        · intro W hW; (try dsimp only at hW); go_simp <;> with_reducible rfl
        simp only [Act.put, List.setIfInBounds_toArray, List.set_cons_zero, List.set_cons_succ]
        refine hTake (i := 3) (v := ?_) rfl (by kernel_rfl) (by kernel_rfl) (by kernel_rfl) (by rfl) ?_ hH ?_
        rotate_left
        · intro W hW; (try dsimp only at hW); go_simp <;> with_reducible rfl
        simp only [Act.put, List.setIfInBounds_toArray, List.set_cons_zero, List.set_cons_succ]
        refine hTake (i := 4) (v := ?_) rfl (by kernel_rfl) (by kernel_rfl) (by kernel_rfl) (by rfl) ?_ hH ?_
        rotate_left
        · intro W hW; (try dsimp only at hW); go_simp <;> with_reducible rfl
        simp only [Act.put, List.setIfInBounds_toArray, List.set_cons_zero, List.set_cons_succ]
        refine hTake (i := 5) (v := ?_) rfl (by kernel_rfl) (by kernel_rfl) (by kernel_rfl) (by rfl) ?_ hH ?_
        rotate_left
        · intro W hW; (try dsimp only at hW); go_simp <;> with_reducible rfl
        simp only [Act.put, List.setIfInBounds_toArray, List.set_cons_zero, List.set_cons_succ]
        refine hTake (i := 6) (v := ?_) rfl (by kernel_rfl) (by kernel_rfl) (by kernel_rfl) (by rfl) ?_ hH ?_
        rotate_left
        · intro W hW; (try dsimp only at hW); go_simp <;> with_reducible rfl
        simp only [Act.put, List.setIfInBounds_toArray, List.set_cons_zero, List.set_cons_succ]
        refine hTake (i := 9) (v := ?_) rfl (by kernel_rfl) (by kernel_rfl) (by kernel_rfl) (by rfl) ?_ hH ?_
        rotate_left
        · intro W hW; (try dsimp only at hW); go_simp <;> with_reducible rfl
        simp only [Act.put, List.setIfInBounds_toArray, List.set_cons_zero, List.set_cons_succ]
        refine wpAnyH_ready (rs := [7]) (by kernel_rfl) (by simp) ?_
        refine AllReadyH.cons rfl (fun K hK => ?_) AllReadyH.nil
        have e0 := dd0
        have e1 := dd1
        have e2 := dd2
        go_simp
        refine hK.out _ _ ?_ (fun hH => ?_)
        · exact hH
        clear hK K
        refine hTake (i := 8) (v := ?_) rfl (by kernel_rfl) (by kernel_rfl) (by kernel_rfl) (by rfl) ?_ hH ?_
        rotate_left
        · intro W hW; (try dsimp only at hW); go_simp <;> with_reducible rfl
        simp only [Act.put, List.setIfInBounds_toArray, List.set_cons_zero, List.set_cons_succ]
        refine wpAnyH_ready (rs := [10]) (by kernel_rfl) (by simp) ?_
        refine AllReadyH.cons rfl (fun K hK => ?_) AllReadyH.nil
        go_simp
        refine (HE0.out jm lqs.length _ vs (HOwn.out.below kV) (Nat.le_trans HB.out kV.size) (Nat.le_refl _)).mono ?_
        rintro e w5 ⟨rfl, vs5, own5, mv5⟩
        have hbn : bx ∉ (Value.slice (some ⟨o, 0, none⟩) n cap).ownBlock.toList ++ vs.flatMap blks := HBN.out
        have MV := hid ((Moved.ofBelow kV).trans mv5)
        go_wp2_with fail
        refine hK.out _ _ ?_ (fun hH => ?_)
        · exact ⟨mv5.cell hH.1 hbn, mv5.cell hH.2 hbn⟩
        clear hK K
        refine hTake (i := 11) (v := ?_) rfl (by kernel_rfl) (by kernel_rfl) (by kernel_rfl) (by rfl) ?_ hH ?_
        rotate_left
        · intro W hW; (try dsimp only at hW); go_simp <;> with_reducible rfl
        simp only [Act.put, List.setIfInBounds_toArray, List.set_cons_zero, List.set_cons_succ]
        refine hTake (i := 12) (v := ?_) rfl (by kernel_rfl) (by kernel_rfl) (by kernel_rfl) (by rfl) ?_ hH ?_
        rotate_left
        · intro W hW; (try dsimp only at hW); go_simp <;> with_reducible rfl
        simp only [Act.put, List.setIfInBounds_toArray, List.set_cons_zero, List.set_cons_succ]
        refine wpAnyH_done (by kernel_rfl) ?_ _
        refine NoPanic.normal ?_
        have OW := hid own5
        clear own5
        go_wp2
        exact bodyPost_ret (v := .tuple #[.bool false, .int .i64 (Ch.enterL ⟨r, lhs, lqs⟩ lqs.length ⟨t, jm⟩).2.1]) (by simp [results, Try.results49, go_sem]) rfl ⟨by rw [HAA.out, Ch.enter_false], vs5, by rw [HAA.out]; exact OW.out, MV.out⟩
      · by_cases hq : 0 < lqs.length
        · have HAA := hid (HA1.out (by simp [hq]))
          go_wp2_with fail
          have kV : Below w.heap.size w w4.drew := kw4.drew
          have dd0 : w4.drew.cell? ⟨o, k * 3, none⟩ = some (.int .i64 r) := (keep_cell kw4 c0 :)
          have dd1 : w4.drew.cell? ⟨o, k * 3 + 1, none⟩ = some (.slice ah lhs.length ch) := (keep_cell kw4 c1 :)
          have dd2 : w4.drew.cell? ⟨o, k * 3 + 2, none⟩ = some (.slice aq lqs.length cq) := (keep_cell kw4 c2 :)
          refine wp_region_noPanic ?_
          refine wp_region_held_drew (S := fun W' => W'.cell? ⟨bx, 0, none⟩ = some (.int .i64 t) ∧ W'.cell? ⟨bx, 1, none⟩ = some (.int .i64 jm)) (by kernel_rfl) (⟨z0, z1⟩) (fun hH => ?_)
          generalize w4.drew = V at *
          refine hTake (i := 0) (v := ?_) rfl (by kernel_rfl) (by kernel_rfl) (by kernel_rfl) (by rfl) ?_ hH ?_
          rotate_left
          · intro W hW; (try dsimp only at hW); go_simp <;> with_reducible rfl
          simp only [Act.put, List.setIfInBounds_toArray, List.set_cons_zero, List.set_cons_succ]
          refine hTake (i := 1) (v := ?_) rfl (by kernel_rfl) (by kernel_rfl) (by kernel_rfl) (by rfl) ?_ hH ?_
          rotate_left
          · intro W hW; (try dsimp only at hW); go_simp <;> with_reducible rfl
          simp only [Act.put, List.setIfInBounds_toArray, List.set_cons_zero, List.set_cons_succ]
          refine hTake (i := 2) (v := ?_) rfl (by kernel_rfl) (by kernel_rfl) (by kernel_rfl) (by rfl) ?_ hH ?_
          rotate_left
          · intro W hW; (try dsimp only at hW); go_simp <;> with_reducible rfl
          simp only [Act.put, List.setIfInBounds_toArray, List.set_cons_zero, List.set_cons_succ]
          refine hTake (i := 3) (v := ?_) rfl (by kernel_rfl) (by kernel_rfl) (by kernel_rfl) (by rfl) ?_ hH ?_
          rotate_left
          · intro W hW; (try dsimp only at hW); go_simp <;> with_reducible rfl
          simp only [Act.put, List.setIfInBounds_toArray, List.set_cons_zero, List.set_cons_succ]
          refine hTake (i := 4) (v := ?_) rfl (by kernel_rfl) (by kernel_rfl) (by kernel_rfl) (by rfl) ?_ hH ?_
          rotate_left
          · intro W hW; (try dsimp only at hW); go_simp <;> with_reducible rfl
          simp only [Act.put, List.setIfInBounds_toArray, List.set_cons_zero, List.set_cons_succ]
          refine hTake (i := 5) (v := ?_) rfl (by kernel_rfl) (by kernel_rfl) (by kernel_rfl) (by rfl) ?_ hH ?_
          rotate_left
          · intro W hW; (try dsimp only at hW); go_simp <;> with_reducible rfl
          simp only [Act.put, List.setIfInBounds_toArray, List.set_cons_zero, List.set_cons_succ]
          refine hTake (i := 6) (v := ?_) rfl (by kernel_rfl) (by kernel_rfl) (by kernel_rfl) (by rfl) ?_ hH ?_
          rotate_left
          · intro W hW; (try dsimp only at hW); go_simp <;> with_reducible rfl
          simp only [Act.put, List.setIfInBounds_toArray, List.set_cons_zero, List.set_cons_succ]
          refine hTake (i := 9) (v := ?_) rfl (by kernel_rfl) (by kernel_rfl) (by kernel_rfl) (by rfl) ?_ hH ?_
          rotate_left
          · intro W hW; (try dsimp only at hW); go_simp <;> with_reducible rfl
          simp only [Act.put, List.setIfInBounds_toArray, List.set_cons_zero, List.set_cons_succ]
          refine wpAnyH_ready (rs := [7]) (by kernel_rfl) (by simp) ?_
          refine AllReadyH.cons rfl (fun K hK => ?_) AllReadyH.nil
          have e0 := dd0
          have e1 := dd1
          have e2 := dd2
          go_simp
          refine hK.out _ _ ?_ (fun hH => ?_)
          · exact hH
          clear hK K
          refine hTake (i := 8) (v := ?_) rfl (by kernel_rfl) (by kernel_rfl) (by kernel_rfl) (by rfl) ?_ hH ?_
          rotate_left
          · intro W hW; (try dsimp only at hW); go_simp <;> with_reducible rfl
          simp only [Act.put, List.setIfInBounds_toArray, List.set_cons_zero, List.set_cons_succ]
          refine wpAnyH_ready (rs := [10]) (by kernel_rfl) (by simp) ?_
          refine AllReadyH.cons rfl (fun K hK => ?_) AllReadyH.nil
          go_simp
          refine (HE0.out jm lqs.length _ vs (HOwn.out.below kV) (Nat.le_trans HB.out kV.size) (Nat.le_refl _)).mono ?_
          rintro e w5 ⟨rfl, vs5, own5, mv5⟩
          have hbn : bx ∉ (Value.slice (some ⟨o, 0, none⟩) n cap).ownBlock.toList ++ vs.flatMap blks := HBN.out
          have MV := hid ((Moved.ofBelow kV).trans mv5)
          go_wp2_with fail
          refine hK.out _ _ ?_ (fun hH => ?_)
          · exact ⟨mv5.cell hH.1 hbn, mv5.cell hH.2 hbn⟩
          clear hK K
          refine hTake (i := 11) (v := ?_) rfl (by kernel_rfl) (by kernel_rfl) (by kernel_rfl) (by rfl) ?_ hH ?_
          rotate_left
          · intro W hW; (try dsimp only at hW); go_simp <;> with_reducible rfl
          simp only [Act.put, List.setIfInBounds_toArray, List.set_cons_zero, List.set_cons_succ]
          refine hTake (i := 12) (v := ?_) rfl (by kernel_rfl) (by kernel_rfl) (by kernel_rfl) (by rfl) ?_ hH ?_
          rotate_left
          · intro W hW; (try dsimp only at hW); go_simp <;> with_reducible rfl
          simp only [Act.put, List.setIfInBounds_toArray, List.set_cons_zero, List.set_cons_succ]
          refine wpAnyH_done (by kernel_rfl) ?_ _
          refine NoPanic.normal ?_
          have OW := hid own5
          clear own5
          go_wp2
          exact bodyPost_ret (v := .tuple #[.bool false, .int .i64 (Ch.enterL ⟨r, lhs, lqs⟩ lqs.length ⟨t, jm⟩).2.1]) (by simp [results, Try.results49, go_sem]) rfl ⟨by rw [HAA.out, Ch.enter_false], vs5, by rw [HAA.out]; exact OW.out, MV.out⟩
        · skip
          cases rm
          · have HAA := hid (HA3.out (by rw [decide_eq_false hq]; rfl) rfl rfl)
            go_wp2_with fail
            refine (HIR.out _ (h3.below kw4)).mono ?_
            rintro e w6 ⟨rfl, b6⟩
            have k6 := hid (kw4.trans (b6.mono kw4.size))
            go_wp2
            exact bodyPost_ret (v := .tuple #[.bool false, .int .i64 2]) (by simp [results, Try.results49, go_sem]) rfl ⟨by rw [HAA.out], vs, by rw [HAA.out]; simp only; rw [HSM.out]; exact HOwn.out.below k6.out, Moved.ofBelow k6.out⟩
          · have HAA := hid (HA4.out (by rw [decide_eq_false hq]; rfl) rfl rfl)
            go_wp2_with fail
            refine (HIR.out _ (h3.below kw4)).mono ?_
            rintro e w6 ⟨rfl, b6⟩
            have k6 := kw4.trans (b6.mono kw4.size)
            have u0 := keep_cell b6 z0
            have u1 := keep_cell b6 z1
            go_wp2_with fail
            refine (HH0.out jm _ vs (HOwn.out.below k6) (Nat.le_trans HB.out k6.size)).mono ?_
            rintro e w7 ⟨rfl, vs7, own7, mv7⟩
            have MV := hid ((Moved.ofBelow k6).trans mv7)
            have OW := hid own7
            clear own7
            go_wp2
            exact bodyPost_ret (v := .tuple #[.bool true, .int .i64 0]) (by simp [results, Try.results49, go_sem]) rfl ⟨by rw [HAA.out], vs7, by rw [HAA.out]; exact OW.out, MV.out⟩
    · cases ft
      · have HAA := hid (HA2.out (by simp [h0]) rfl)
        go_wp2_with fail
        have kV : Below w.heap.size w w4.drew := kw4.drew
        have dd0 : w4.drew.cell? ⟨o, k * 3, none⟩ = some (.int .i64 r) := (keep_cell kw4 c0 :)
        have dd1 : w4.drew.cell? ⟨o, k * 3 + 1, none⟩ = some (.slice ah lhs.length ch) := (keep_cell kw4 c1 :)
        have dd2 : w4.drew.cell? ⟨o, k * 3 + 2, none⟩ = some (.slice aq lqs.length cq) := (keep_cell kw4 c2 :)
        refine wp_region_noPanic ?_
        refine wp_region_held_drew (S := fun W' => W'.cell? ⟨bx, 0, none⟩ = some (.int .i64 t) ∧ W'.cell? ⟨bx, 1, none⟩ = some (.int .i64 jm)) (by kernel_rfl) (⟨z0, z1⟩) (fun hH => ?_)
        generalize w4.drew = V at *
        refine hTake (i := 0) (v := ?_) rfl (by kernel_rfl) (by kernel_rfl) (by kernel_rfl) (by rfl) ?_ hH ?_
        rotate_left
        · intro W hW; (try dsimp only at hW); go_simp <;> with_reducible rfl
        simp only [Act.put, List.setIfInBounds_toArray, List.set_cons_zero, List.set_cons_succ]
        refine hTake (i := 1) (v := ?_) rfl (by kernel_rfl) (by kernel_rfl) (by kernel_rfl) (by rfl) ?_ hH ?_
        rotate_left
        · intro W hW; (try dsimp only at hW); go_simp <;> with_reducible rfl
        simp only [Act.put, List.setIfInBounds_toArray, List.set_cons_zero, List.set_cons_succ]
        refine hTake (i := 2) (v := ?_) rfl (by kernel_rfl) (by kernel_rfl) (by kernel_rfl) (by rfl) ?_ hH ?_
        rotate_left
        · intro W hW; (try dsimp only at hW); go_simp <;> with_reducible rfl
        simp only [Act.put, List.setIfInBounds_toArray, List.set_cons_zero, List.set_cons_succ]
        refine hTake (i := 3) (v := ?_) rfl (by kernel_rfl) (by kernel_rfl) (by kernel_rfl) (by rfl) ?_ hH ?_
        rotate_left
        · intro W hW; (try dsimp only at hW); go_simp <;> with_reducible rfl
        simp only [Act.put, List.setIfInBounds_toArray, List.set_cons_zero, List.set_cons_succ]
        refine hTake (i := 4) (v := ?_) rfl (by kernel_rfl) (by kernel_rfl) (by kernel_rfl) (by rfl) ?_ hH ?_
        rotate_left
        · intro W hW; (try dsimp only at hW); go_simp <;> with_reducible rfl
        simp only [Act.put, List.setIfInBounds_toArray, List.set_cons_zero, List.set_cons_succ]
        refine hTake (i := 7) (v := ?_) rfl (by kernel_rfl) (by kernel_rfl) (by kernel_rfl) (by rfl) ?_ hH ?_
        rotate_left
        · intro W hW; (try dsimp only at hW); go_simp <;> with_reducible rfl
        simp only [Act.put, List.setIfInBounds_toArray, List.set_cons_zero, List.set_cons_succ]
        refine wpAnyH_ready (rs := [5]) (by kernel_rfl) (by simp) ?_
        refine AllReadyH.cons rfl (fun K hK => ?_) AllReadyH.nil
        have e0 := dd0
        have e1 := dd1
        have e2 := dd2
        go_simp
        refine hK.out _ _ ?_ (fun hH => ?_)
        · exact hH
        clear hK K
        refine wpAnyH_ready (rs := [6]) (by kernel_rfl) (by simp) ?_
        refine AllReadyH.cons rfl (fun K hK => ?_) AllReadyH.nil
        go_simp
        refine (HCC.out _ (h3.below kV) (h4.below kV)).mono ?_
        rintro e w6 ⟨rfl, b6⟩
        have k6 := kV.trans (b6.mono kV.size)
        go_wp2_with fail
        refine hK.out _ _ ?_ (fun hH => ?_)
        · exact ⟨keep_cell b6 hH.1, keep_cell b6 hH.2⟩
        clear hK K
        refine wpAnyH_ready (rs := [8]) (by kernel_rfl) (by simp) ?_
        refine AllReadyH.cons rfl (fun K hK => ?_) AllReadyH.nil
        go_simp
        refine (HE0.out jm cv _ vs (HOwn.out.below k6) (Nat.le_trans HB.out k6.size) HCL.out).mono ?_
        rintro e w5 ⟨rfl, vs5, own5, mv5⟩
        have hbn : bx ∉ (Value.slice (some ⟨o, 0, none⟩) n cap).ownBlock.toList ++ vs.flatMap blks := HBN.out
        have MV := hid ((Moved.ofBelow k6).trans mv5)
        go_wp2_with fail
        refine hK.out _ _ ?_ (fun hH => ?_)
        · exact ⟨mv5.cell hH.1 hbn, mv5.cell hH.2 hbn⟩
        clear hK K
        refine hTake (i := 9) (v := ?_) rfl (by kernel_rfl) (by kernel_rfl) (by kernel_rfl) (by rfl) ?_ hH ?_
        rotate_left
        · intro W hW; (try dsimp only at hW); go_simp <;> with_reducible rfl
        simp only [Act.put, List.setIfInBounds_toArray, List.set_cons_zero, List.set_cons_succ]
        refine hTake (i := 10) (v := ?_) rfl (by kernel_rfl) (by kernel_rfl) (by kernel_rfl) (by rfl) ?_ hH ?_
        rotate_left
        · intro W hW; (try dsimp only at hW); go_simp <;> with_reducible rfl
        simp only [Act.put, List.setIfInBounds_toArray, List.set_cons_zero, List.set_cons_succ]
        refine wpAnyH_done (by kernel_rfl) ?_ _
        refine NoPanic.normal ?_
        have OW := hid own5
        clear own5
        go_wp2
        exact bodyPost_ret (v := .tuple #[.bool false, .int .i64 (Ch.enterL ⟨r, lhs, lqs⟩ cv ⟨t, jm⟩).2.1]) (by simp [results, Try.results49, go_sem]) rfl ⟨by rw [HAA.out, Ch.enter_false], vs5, by rw [HAA.out]; exact OW.out, MV.out⟩
      · skip
        cases rm
        · have HAA := hid (HA3.out (by simp [h0]) rfl rfl)
          go_wp2_with fail
          refine (HIR.out _ (h3.below kw4)).mono ?_
          rintro e w6 ⟨rfl, b6⟩
          have k6 := hid (kw4.trans (b6.mono kw4.size))
          go_wp2
          exact bodyPost_ret (v := .tuple #[.bool false, .int .i64 2]) (by simp [results, Try.results49, go_sem]) rfl ⟨by rw [HAA.out], vs, by rw [HAA.out]; simp only; rw [HSM.out]; exact HOwn.out.below k6.out, Moved.ofBelow k6.out⟩
        · have HAA := hid (HA4.out (by simp [h0]) rfl rfl)
          go_wp2_with fail
          refine (HIR.out _ (h3.below kw4)).mono ?_
          rintro e w6 ⟨rfl, b6⟩
          have k6 := kw4.trans (b6.mono kw4.size)
          have u0 := keep_cell b6 z0
          have u1 := keep_cell b6 z1
          go_wp2_with fail
          refine (HH0.out jm _ vs (HOwn.out.below k6) (Nat.le_trans HB.out k6.size)).mono ?_
          rintro e w7 ⟨rfl, vs7, own7, mv7⟩
          have MV := hid ((Moved.ofBelow k6).trans mv7)
          have OW := hid own7
          clear own7
          go_wp2
          exact bodyPost_ret (v := .tuple #[.bool true, .int .i64 0]) (by simp [results, Try.results49, go_sem]) rfl ⟨by rw [HAA.out], vs7, by rw [HAA.out]; exact OW.out, MV.out⟩
  · have HIC := hid (fun W => implCov_at hcv W)
    rw [Ch.ask_cov (l := ⟨r, lhs, lqs⟩) hcv]
    simp only
    rw [HSM.out]
    clear hcv
    go_enter Try.func49, Try.ntmps49
    go_wp2_with fail
    refine (HIM.out _ h3).mono ?_
    rintro e w1 ⟨rfl, b1⟩
    go_wp2_with fail
    refine (HIC.out _).mono ?_
    rintro e w2 ⟨rfl, b2⟩
    have bb := hid (b1.trans (b2.mono b1.size))
    go_wp2
    exact bodyPost_ret (v := .tuple #[.bool true, .int .i64 0]) (by simp [results, Try.results49, go_sem]) rfl ⟨rfl, _, HOwn.out.below bb.out, Moved.ofBelow bb.out⟩

end Go.Proofs.Yteblnejpohjjmaa
