
/- PutRow of the program. -/
import Derived.Test.YtjjbjdjkcckgmaaPutG
import Derived.Test.YtjjbjdjkcckgmaaPutF
import Derived.Test.YtjjbjdjkcckgmaaFindI
import Derived.Test.YtjjbjdjkcckgmaaResL
import Derived.Deep.DeepCutAuto
namespace Go.Proofs.Ytjjbjdjkcckgmaa
open Go.RowKit Go.Maps

theorem step_look {ops : Array Oper} {o : Oper} {a : Act} {w : World} {K : Act → World → Prop} {Q : Exit → Act → World → Prop} {E : Prop} (m x : Operand) (B N : Nat) (D : DataW Unit) (key : Int) (i j : Nat) (bb : Bool)
    (hop : o.op = Op.lookup 74 m x true) (hg : o.guard = none) (hm : a.eval m = .map (some B)) (hx : a.eval x = .int .i64 key) (hown : w.ownsMap Try.prog 2 plElem B N D) (h0 : 0 ≤ key) (h1 : key ≤ 99)
    (hb : Maps.has D (kk key) = bb) (hat : D.atKey (kk key) (pl 0 0) = pl i j) (hK : K (a.put o.dst (.tuple #[.agg #[.int .i64 i, .int .i64 j], .bool bb])) w) : if Region.wanted o (yielded ops a.tmps) = true then Oper.wp Try.prog o a w K Q else E := by
  have hw : Region.wanted o (yielded ops a.tmps) = true := by simp [Region.wanted, hg]
  rw [if_pos hw]
  obtain ⟨v, ps, hrun, hv⟩ := hown.look_ok Try.keyed Try.underlying74 (Try.zeroPlace w) (plElem_mk 0 0) (kk_key h0 h1)
  unfold Oper.wp
  simp [execOp, hop, hm, hx, hrun, Result.andThen]
  have hv' : plElem v = some (D.atKey (kk key) (pl 0 0), ps) := hv
  rw [hat] at hv'
  rw [plElem_inv hv', hb]
  exact hK

theorem one_put' (W : World) (B H : Nat) (rk rv : Int) (rg : Bool) (hH : W.heap.size = H) (hB : B ≤ H) : OwnLv ((W.alloc (.cells #[.int .i64 rk, .int .i64 rv, .bool rg] 49)).alloc (.cells #[.slice (some ⟨H, 0, none⟩) 1 1] 65)) B (.slice (some ⟨H + 1, 0, none⟩) 1 1) 1 [[⟨rk, rv, rg⟩]] := by
  subst hH
  exact one_put W B rk rv rg hB

set_option linter.unusedSimpArgs false in
set_option maxRecDepth 100000 in
set_option maxHeartbeats 8000000 in
theorem implPutRow_any (a : Option Addr) (n cap : Nat) (ls : List (List Ch.Row)) (rk rv : Int) (rg : Bool) (w : World) (h : LvAt w a n ls) (hs : Ch.lvSize ls ≤ 1048576) :
    Calls Try.prog 18 #[.slice a n cap, .agg #[.int .i64 rk, .int .i64 rv, .bool rg]] w fun e w' => ∃ a' m c', e = .returned (.agg #[.int .i64 (Ch.putR ls ⟨rk, rv, rg⟩).1, .slice a' m c']) ∧ OwnLv w' w.heap.size (.slice a' m c') m (Ch.putR ls ⟨rk, rv, rg⟩).2 ∧ Below w.heap.size w w' := by
  have HL := h.len
  have b0 : Below w.heap.size w ((w.alloc (.cells #[.int .i64 rk, .int .i64 rv, .bool rg] 49)).alloc (.cells #[.int .i64 0, .slice none 0 0] 53)) := Below.alloc (Below.alloc (Below.refl _ w) (Nat.le_refl _) _) (by simp) _
  obtain ⟨c, Hc⟩ : ∃ c, Hid (c = Ch.leavesFault ls) := ⟨_, rfl⟩
  obtain ⟨d, Hd⟩ : ∃ d, Hid (d = Ch.rowFault rk rv rg) := ⟨_, rfl⟩
  have HA : Hid ((c != 0) = true → Ch.putR ls ⟨rk, rv, rg⟩ = (c, [])) := by rw [Hc.out]; exact fun h => Ch.putR_code h
  have HB : Hid ((c != 0) = false → (d != 0) = true → Ch.putR ls ⟨rk, rv, rg⟩ = (d, [])) := by rw [Hc.out, Hd.out]; exact fun h h' => Ch.putR_row h h'
  have HC : Hid ((c != 0) = false → (d != 0) = false → 60 < (Ch.put ls ⟨rk, rv, rg⟩).length → Ch.putR ls ⟨rk, rv, rg⟩ = (2, [])) := by rw [Hc.out, Hd.out]; exact fun h h' => Ch.putR_many h h'
  have HD : Hid ((c != 0) = false → (d != 0) = false → ¬ 60 < (Ch.put ls ⟨rk, rv, rg⟩).length → Ch.putR ls ⟨rk, rv, rg⟩ = (0, Ch.put ls ⟨rk, rv, rg⟩)) := by rw [Hc.out, Hd.out]; exact fun h h' => Ch.putR_ok h h'
  go_enter Try.func18, Try.ntmps18
  go_wp2_with fail
  refine (implLeaves_any a n cap ls _ (h.below b0) hs).mono ?_
  rintro e w1 ⟨rfl, b1⟩
  rw [← Hc.out]
  obtain ⟨cA, fA⟩ := bcell b1
  have r0 := cA w.heap.size 0 (by simp; omega)
  have r1 := cA w.heap.size 1 (by simp; omega)
  have r2 := cA w.heap.size 2 (by simp; omega)
  have x0 := cA (w.heap.size + 1) 0 (by simp)
  have x1 := cA (w.heap.size + 1) 1 (by simp)
  have f0 := fA (w.heap.size + 1) 0 (by simp)
  have f1 := fA (w.heap.size + 1) 1 (by simp)
  clear cA fA
  simp [go_sem] at r0 r1 r2 x0 x1 f0 f1
  have hz := lt_of_cell x0
  have bE := b0.trans (b1.mono b0.size)
  clear b1 b0
  cases hc : (c != 0)
  · have HG : Hid (Ch.leavesFault ls = 0) := by show _ = _; rw [← Hc.out]; simpa using hc
    clear HA
    go_wp2_with fail
    refine (implRow_any rk rv rg _).mono ?_
    rintro e w2 ⟨rfl, b2⟩
    rw [← Hd.out]
    have r0 := keep_cell b2 r0
    have r1 := keep_cell b2 r1
    have r2 := keep_cell b2 r2
    have x0 := keep_cell b2 x0
    have x1 := keep_cell b2 x1
    have f0 := ((bcell b2).2 (w.heap.size + 1) 0 hz).trans f0
    have f1 := ((bcell b2).2 (w.heap.size + 1) 1 hz).trans f1
    have hz := lt_of_cell x0
    have bE := bE.trans (b2.mono bE.size)
    clear b2
    cases hd : (d != 0)
    · have HC' := hid (HC.out hc hd)
      have HD' := hid (HD.out hc hd)
      have HRF : Hid (Ch.rowFault rk rv rg = 0) := by show _ = _; rw [← Hd.out]; simpa using hd
      clear HB HC HD
      by_cases hn0 : n = 0
      · subst hn0
        have HP : Hid (Ch.putR ls ⟨rk, rv, rg⟩ = (0, [[⟨rk, rv, rg⟩]])) := by
          show _ = _
          rw [HD'.out (by rw [Ch.put_nil HL.out.symm]; simp), Ch.put_nil HL.out.symm]
        clear HC' HD'
        have hz' : w.heap.size < w2.heap.size := by omega
        go_wp2
        refine bodyPost_ret (v := .agg #[.int .i64 0, .slice (some ⟨w2.heap.size + 1, 0, none⟩) 1 1]) (by simp [results, Try.results18, go_sem, x0, x1, hz, hz']) rfl ⟨some ⟨w2.heap.size + 1, 0, none⟩, 1, 1, by rw [HP.out], ?_, ?_⟩
        · rw [HP.out]
          exact one_put' _ w.heap.size w2.heap.size rk rv rg (by simp [World.setCell]) bE.size
        · have bs := (bE.setCell (p := ⟨w.heap.size + 1, 0, none⟩) (by simp) (.int .i64 0)).setCell (p := ⟨w.heap.size + 1, 1, none⟩) (by simp) (.slice (some ⟨w2.heap.size + 1, 0, none⟩) 1 1)
          exact (bs.alloc bs.size _).alloc (by have := bs.size; simp at this ⊢; omega) _
      · have hg := Ch.good_at HL HG.out
        have hn60 : n ≤ 60 := by have := Ch.good_len HG.out; have := HL.out; omega
        have hnb : ((n : Int) == 0) = false := by simp; omega
        go_wp2_with fail
        refine (cloneLeaves_any a n cap ls _ (h.below bE) hs hg (by omega)).mono ?_
        rintro e w3 ⟨g, c3, rfl, own3, b3⟩
        have r0 := keep_cell b3 r0
        have r1 := keep_cell b3 r1
        have r2 := keep_cell b3 r2
        have x0 := keep_cell b3 x0
        have x1 := keep_cell b3 x1
        have f0 := ((bcell b3).2 (w.heap.size + 1) 0 hz).trans f0
        have f1 := ((bcell b3).2 (w.heap.size + 1) 1 hz).trans f1
        have bE3 := bE.trans (b3.mono bE.size)
        have hzB := hz
        have hz := lt_of_cell x0
        have hBs := b3.size
        obtain ⟨B, hBe⟩ : ∃ B, w2.heap.size = B := ⟨_, rfl⟩
        rw [hBe] at own3 hzB hBs
        have hwB : w.heap.size + 1 < B := hzB
        clear b3 hBe bE
        have HKey : Hid (0 ≤ rk ∧ rk ≤ 99) := Ch.rowFault_key HRF.out
        have hk0 := HKey.out.1
        have hk1 := HKey.out.2
        have HS : Hid (∀ W', Below w3.heap.size w3 W' → W'.cell? ⟨w.heap.size, 0, none⟩ = some (.int .i64 rk)) := fun W' hW => keep_cell hW r0
        obtain ⟨ii, jj, bb, HPl, HX⟩ : ∃ (ii jj : Nat) (bb : Bool), Hid (∀ D, Pl ls D ls.length 0 → Maps.has D (kk rk) = bb ∧ D.atKey (kk rk) (pl 0 0) = pl ii jj) ∧ Hid ((bb = true ∧ ii < ls.length ∧ jj < (ls.getD ii []).length ∧ Ch.keyAt ls ii jj = rk) ∨ (bb = false ∧ Ch.findR ls rk = none)) := by
          cases hfr : Ch.findR ls rk with
          | none => exact ⟨0, 0, false, fun D hD => hD.none hfr, .inr ⟨rfl, rfl⟩⟩
          | some row =>
            obtain ⟨i, j, hi, hj, hr, hk⟩ := Ch.find_some hfr
            have e : Ch.keyAt ls i j = rk := by unfold Ch.keyAt; rw [hr]; exact hk
            refine ⟨i, j, true, fun D hD => ?_, .inl ⟨rfl, hi, hj, e⟩⟩
            have := hD.yes i j (.inl hi) hi hj
            rw [e] at this
            exact ⟨this.1, this.2 _⟩
        go_upto_region 10 with fail
        go_cut [8, 9] (fun s8 s9 wx => ∃ P, s8 = .pointer (some ⟨P, 0, none⟩) ∧ s9 = .bool bb ∧ wx.cell? ⟨P, 0, none⟩ = some (.int .i64 ii) ∧ wx.cell? ⟨P, 1, none⟩ = some (.int .i64 jj) ∧ w3.heap.size ≤ P ∧ Below w3.heap.size w3 wx)
        case first =>
          refine wp_region_noPanic ?_
          refine wp_region_held_drew (S := fun W' => W'.cell? ⟨w.heap.size, 0, none⟩ = some (.int .i64 rk)) (by kernel_rfl) (r0) (fun hH => ?_)
          refine hTake (i := 0) (v := ?_) rfl (by kernel_rfl) (by kernel_rfl) (by kernel_rfl) (by rfl) ?_ hH ?_
          rotate_left
          · intro W hW; (try dsimp only at hW); go_simp <;> with_reducible rfl
          simp only [Act.put, List.setIfInBounds_toArray, List.set_cons_zero, List.set_cons_succ]
          refine hTake (i := 2) (v := ?_) rfl (by kernel_rfl) (by kernel_rfl) (by kernel_rfl) (by rfl) ?_ hH ?_
          rotate_left
          · intro W hW; (try dsimp only at hW); go_simp <;> with_reducible rfl
          simp only [Act.put, List.setIfInBounds_toArray, List.set_cons_zero, List.set_cons_succ]
          refine hTake (i := 3) (v := ?_) rfl (by kernel_rfl) (by kernel_rfl) (by kernel_rfl) (by rfl) ?_ hH ?_
          rotate_left
          · intro W hW; (try dsimp only at hW); go_simp <;> with_reducible rfl
          simp only [Act.put, List.setIfInBounds_toArray, List.set_cons_zero, List.set_cons_succ]
          have bd : Below w3.heap.size w3 w3.drew := (Below.refl _ _).drew
          have zd := bd.size
          generalize w3.drew = w3d at *
          refine wpAnyH_ready (rs := [1, 8]) (by kernel_rfl) (by simp) ?_
          refine AllReadyH.cons rfl (fun K hK => ?_) (AllReadyH.cons rfl (fun K hK => ?_) AllReadyH.nil)
          focus
            go_simp
            refine (places_any a n cap ls w3d (h.below (bE3.trans (bd.mono bE3.size))) HG.out).mono ?_
            rintro e w4 ⟨N, D, rfl, own, hP, b4⟩
            have B4 := bd.trans (b4.mono bd.size)
            have ⟨hh, ha⟩ := HPl.out D hP
            go_wp2_with fail
            refine hK.out _ _ ?_ (fun hH => ?_)
            · exact HS.out _ B4
            clear hK K
            refine wpAnyH_ready (rs := [4, 8]) (by kernel_rfl) (by simp) ?_
            refine AllReadyH.cons rfl (fun K hK => ?_) (AllReadyH.cons rfl (fun K hK => ?_) AllReadyH.nil)
            focus
              refine step_look (.tmp 35) (.tmp 37) _ N D rk ii jj bb rfl rfl rfl rfl own hk0 hk1 hh ha ?_
              refine hK.out _ _ ?_ (fun hH => ?_)
              · exact HS.out _ B4
              clear hK K
              simp only [Act.put, List.setIfInBounds_toArray, List.set_cons_zero, List.set_cons_succ]
              refine hTake (i := 5) (v := ?_) rfl (by kernel_rfl) (by kernel_rfl) (by kernel_rfl) (by rfl) ?_ hH ?_
              rotate_left
              · intro W hW; (try dsimp only at hW); go_simp <;> with_reducible rfl
              simp only [Act.put, List.setIfInBounds_toArray, List.set_cons_zero, List.set_cons_succ]
              refine hTake (i := 6) (v := ?_) rfl (by kernel_rfl) (by kernel_rfl) (by kernel_rfl) (by rfl) ?_ hH ?_
              rotate_left
              · intro W hW; (try dsimp only at hW); go_simp <;> with_reducible rfl
              simp only [Act.put, List.setIfInBounds_toArray, List.set_cons_zero, List.set_cons_succ]
              refine hTake (i := 7) (v := ?_) rfl (by kernel_rfl) (by kernel_rfl) (by kernel_rfl) (by rfl) ?_ hH ?_
              rotate_left
              · intro W hW; (try dsimp only at hW); go_simp <;> with_reducible rfl
              simp only [Act.put, List.setIfInBounds_toArray, List.set_cons_zero, List.set_cons_succ]
              refine wpAnyH_ready (rs := [8]) (by kernel_rfl) (by simp) ?_
              refine AllReadyH.cons rfl (fun K hK => ?_) AllReadyH.nil
              go_simp
              refine hK.out _ _ ?_ (fun hH => ?_)
              · exact HS.out _ (B4.alloc B4.size _)
              clear hK K
              have BA := B4.alloc B4.size (.cells #[.int .i64 0, .int .i64 0] 72)
              have p0 : (w4.alloc (.cells #[.int .i64 0, .int .i64 0] 72)).cell? ⟨w4.heap.size, 0, none⟩ = some (.int .i64 0) := by simp [go_sem]
              have p1 : (w4.alloc (.cells #[.int .i64 0, .int .i64 0] 72)).cell? ⟨w4.heap.size, 1, none⟩ = some (.int .i64 0) := by simp [go_sem]
              have q0 : (w4.alloc (.cells #[.int .i64 0, .int .i64 0] 72)).frozen? ⟨w4.heap.size, 0, none⟩ = false := by simp [go_sem]
              have q1 : (w4.alloc (.cells #[.int .i64 0, .int .i64 0] 72)).frozen? ⟨w4.heap.size, 1, none⟩ = false := by simp [go_sem]
              have zP := B4.size
              generalize (w4.alloc (.cells #[.int .i64 0, .int .i64 0] 72)) = wA at *
              refine wpAnyH_ready (rs := [9]) (by kernel_rfl) (by simp) ?_
              refine AllReadyH.cons rfl (fun K hK => ?_) AllReadyH.nil
              go_simp
              refine hK.out _ _ ?_ (fun hH => ?_)
              · exact HS.out _ ((BA.setCell (p := ⟨w4.heap.size, 0, none⟩) zP _).setCell (p := ⟨w4.heap.size, 1, none⟩) zP _)
              clear hK K
              refine hTake (i := 10) (v := ?_) rfl (by kernel_rfl) (by kernel_rfl) (by kernel_rfl) (by rfl) ?_ hH ?_
              rotate_left
              · intro W hW; (try dsimp only at hW); go_simp <;> with_reducible rfl
              simp only [Act.put, List.setIfInBounds_toArray, List.set_cons_zero, List.set_cons_succ]
              refine wpAnyH_done (by kernel_rfl) ?_ _
              refine NoPanic.normal ?_
              go_wp2_with fail
              go_meet
              exact ⟨w4.heap.size, rfl, rfl, by simp [go_sem, p0, p1], by simp [go_sem, p0, p1], zP, (BA.setCell (p := ⟨w4.heap.size, 0, none⟩) zP _).setCell (p := ⟨w4.heap.size, 1, none⟩) zP _⟩
            focus
              go_simp
              refine hK.out _ _ ?_ (fun hH => ?_)
              · exact HS.out _ (B4.alloc B4.size _)
              clear hK K
              have BA := B4.alloc B4.size (.cells #[.int .i64 0, .int .i64 0] 72)
              have own' := own.alloc (.cells #[.int .i64 0, .int .i64 0] 72)
              have p0 : (w4.alloc (.cells #[.int .i64 0, .int .i64 0] 72)).cell? ⟨w4.heap.size, 0, none⟩ = some (.int .i64 0) := by simp [go_sem]
              have p1 : (w4.alloc (.cells #[.int .i64 0, .int .i64 0] 72)).cell? ⟨w4.heap.size, 1, none⟩ = some (.int .i64 0) := by simp [go_sem]
              have q0 : (w4.alloc (.cells #[.int .i64 0, .int .i64 0] 72)).frozen? ⟨w4.heap.size, 0, none⟩ = false := by simp [go_sem]
              have q1 : (w4.alloc (.cells #[.int .i64 0, .int .i64 0] 72)).frozen? ⟨w4.heap.size, 1, none⟩ = false := by simp [go_sem]
              have zP := B4.size
              generalize (w4.alloc (.cells #[.int .i64 0, .int .i64 0] 72)) = wA at *
              refine wpAnyH_ready (rs := [4]) (by kernel_rfl) (by simp) ?_
              refine AllReadyH.cons rfl (fun K hK => ?_) AllReadyH.nil
              refine step_look (.tmp 35) (.tmp 37) _ N D rk ii jj bb rfl rfl rfl rfl own' hk0 hk1 hh ha ?_
              refine hK.out _ _ ?_ (fun hH => ?_)
              · exact HS.out _ BA
              clear hK K
              simp only [Act.put, List.setIfInBounds_toArray, List.set_cons_zero, List.set_cons_succ]
              refine hTake (i := 5) (v := ?_) rfl (by kernel_rfl) (by kernel_rfl) (by kernel_rfl) (by rfl) ?_ hH ?_
              rotate_left
              · intro W hW; (try dsimp only at hW); go_simp <;> with_reducible rfl
              simp only [Act.put, List.setIfInBounds_toArray, List.set_cons_zero, List.set_cons_succ]
              refine hTake (i := 6) (v := ?_) rfl (by kernel_rfl) (by kernel_rfl) (by kernel_rfl) (by rfl) ?_ hH ?_
              rotate_left
              · intro W hW; (try dsimp only at hW); go_simp <;> with_reducible rfl
              simp only [Act.put, List.setIfInBounds_toArray, List.set_cons_zero, List.set_cons_succ]
              refine hTake (i := 7) (v := ?_) rfl (by kernel_rfl) (by kernel_rfl) (by kernel_rfl) (by rfl) ?_ hH ?_
              rotate_left
              · intro W hW; (try dsimp only at hW); go_simp <;> with_reducible rfl
              simp only [Act.put, List.setIfInBounds_toArray, List.set_cons_zero, List.set_cons_succ]
              refine wpAnyH_ready (rs := [9]) (by kernel_rfl) (by simp) ?_
              refine AllReadyH.cons rfl (fun K hK => ?_) AllReadyH.nil
              go_simp
              refine hK.out _ _ ?_ (fun hH => ?_)
              · exact HS.out _ ((BA.setCell (p := ⟨w4.heap.size, 0, none⟩) zP _).setCell (p := ⟨w4.heap.size, 1, none⟩) zP _)
              clear hK K
              refine hTake (i := 10) (v := ?_) rfl (by kernel_rfl) (by kernel_rfl) (by kernel_rfl) (by rfl) ?_ hH ?_
              rotate_left
              · intro W hW; (try dsimp only at hW); go_simp <;> with_reducible rfl
              simp only [Act.put, List.setIfInBounds_toArray, List.set_cons_zero, List.set_cons_succ]
              refine wpAnyH_done (by kernel_rfl) ?_ _
              refine NoPanic.normal ?_
              go_wp2_with fail
              go_meet
              exact ⟨w4.heap.size, rfl, rfl, by simp [go_sem, p0, p1], by simp [go_sem, p0, p1], zP, (BA.setCell (p := ⟨w4.heap.size, 0, none⟩) zP _).setCell (p := ⟨w4.heap.size, 1, none⟩) zP _⟩
          focus
            go_simp
            refine hK.out _ _ ?_ (fun hH => ?_)
            · exact HS.out _ (bd.alloc bd.size _)
            clear hK K
            have BA := bd.alloc bd.size (.cells #[.int .i64 0, .int .i64 0] 72)
            have p0 : (w3d.alloc (.cells #[.int .i64 0, .int .i64 0] 72)).cell? ⟨w3d.heap.size, 0, none⟩ = some (.int .i64 0) := by simp [go_sem]
            have p1 : (w3d.alloc (.cells #[.int .i64 0, .int .i64 0] 72)).cell? ⟨w3d.heap.size, 1, none⟩ = some (.int .i64 0) := by simp [go_sem]
            have q0 : (w3d.alloc (.cells #[.int .i64 0, .int .i64 0] 72)).frozen? ⟨w3d.heap.size, 0, none⟩ = false := by simp [go_sem]
            have q1 : (w3d.alloc (.cells #[.int .i64 0, .int .i64 0] 72)).frozen? ⟨w3d.heap.size, 1, none⟩ = false := by simp [go_sem]
            generalize (w3d.alloc (.cells #[.int .i64 0, .int .i64 0] 72)) = wA at *
            refine wpAnyH_ready (rs := [1]) (by kernel_rfl) (by simp) ?_
            refine AllReadyH.cons rfl (fun K hK => ?_) AllReadyH.nil
            go_simp
            refine (places_any a n cap ls wA (h.below (bE3.trans (BA.mono bE3.size))) HG.out).mono ?_
            rintro e w4 ⟨N, D, rfl, own, hP, b4⟩
            have B4 := BA.trans (b4.mono BA.size)
            have ⟨hh, ha⟩ := HPl.out D hP
            go_wp2_with fail
            refine hK.out _ _ ?_ (fun hH => ?_)
            · exact HS.out _ B4
            clear hK K
            have lP := lt_of_cell p0
            have q0 := ((bcell b4).2 _ _ lP).trans q0
            have q1 := ((bcell b4).2 _ _ lP).trans q1
            have p0 := keep_cell b4 p0
            have p1 := keep_cell b4 p1
            refine wpAnyH_ready (rs := [4]) (by kernel_rfl) (by simp) ?_
            refine AllReadyH.cons rfl (fun K hK => ?_) AllReadyH.nil
            refine step_look (.tmp 35) (.tmp 37) _ N D rk ii jj bb rfl rfl rfl rfl own hk0 hk1 hh ha ?_
            refine hK.out _ _ ?_ (fun hH => ?_)
            · exact HS.out _ B4
            clear hK K
            simp only [Act.put, List.setIfInBounds_toArray, List.set_cons_zero, List.set_cons_succ]
            refine hTake (i := 5) (v := ?_) rfl (by kernel_rfl) (by kernel_rfl) (by kernel_rfl) (by rfl) ?_ hH ?_
            rotate_left
            · intro W hW; (try dsimp only at hW); go_simp <;> with_reducible rfl
            simp only [Act.put, List.setIfInBounds_toArray, List.set_cons_zero, List.set_cons_succ]
            refine hTake (i := 6) (v := ?_) rfl (by kernel_rfl) (by kernel_rfl) (by kernel_rfl) (by rfl) ?_ hH ?_
            rotate_left
            · intro W hW; (try dsimp only at hW); go_simp <;> with_reducible rfl
            simp only [Act.put, List.setIfInBounds_toArray, List.set_cons_zero, List.set_cons_succ]
            refine hTake (i := 7) (v := ?_) rfl (by kernel_rfl) (by kernel_rfl) (by kernel_rfl) (by rfl) ?_ hH ?_
            rotate_left
            · intro W hW; (try dsimp only at hW); go_simp <;> with_reducible rfl
            simp only [Act.put, List.setIfInBounds_toArray, List.set_cons_zero, List.set_cons_succ]
            refine wpAnyH_ready (rs := [9]) (by kernel_rfl) (by simp) ?_
            refine AllReadyH.cons rfl (fun K hK => ?_) AllReadyH.nil
            go_simp
            refine hK.out _ _ ?_ (fun hH => ?_)
            · exact HS.out _ ((B4.setCell (p := ⟨w3d.heap.size, 0, none⟩) zd _).setCell (p := ⟨w3d.heap.size, 1, none⟩) zd _)
            clear hK K
            refine hTake (i := 10) (v := ?_) rfl (by kernel_rfl) (by kernel_rfl) (by kernel_rfl) (by rfl) ?_ hH ?_
            rotate_left
            · intro W hW; (try dsimp only at hW); go_simp <;> with_reducible rfl
            simp only [Act.put, List.setIfInBounds_toArray, List.set_cons_zero, List.set_cons_succ]
            refine wpAnyH_done (by kernel_rfl) ?_ _
            refine NoPanic.normal ?_
            go_wp2_with fail
            go_meet
            exact ⟨w3d.heap.size, rfl, rfl, by simp [go_sem, p0, p1], by simp [go_sem, p0, p1], zd, (B4.setCell (p := ⟨w3d.heap.size, 0, none⟩) zd _).setCell (p := ⟨w3d.heap.size, 1, none⟩) zd _⟩
        case rest =>
          obtain ⟨w4, hwn⟩ : ∃ x : World, x = wc := ⟨_, rfl⟩
          subst hwn
          obtain ⟨P, rfl, rfl, p0, p1, hP, b4⟩ := hcut
          have r0 := keep_cell b4 r0
          have r1 := keep_cell b4 r1
          have r2 := keep_cell b4 r2
          have x0 := keep_cell b4 x0
          have x1 := keep_cell b4 x1
          have f0 := ((bcell b4).2 (w.heap.size + 1) 0 hz).trans f0
          have f1 := ((bcell b4).2 (w.heap.size + 1) 1 hz).trans f1
          obtain ⟨vs, hV3⟩ := own3.told
          have HLt : Hid (∀ (i : Nat) (x : Value) (q : Nat), vs[i]? = some x → x.ownBlock = some q → q < w3.heap.size) := fun i x q h1 h2 => (hV3.lt i x q h1 h2).2
          have hV : OwnV w4 B (.slice (some ⟨g, 0, none⟩) n c3) n vs ls := ⟨hV3.1, owns_below hV3.2.1 b4, fun i hi => by
            obtain ⟨x, h1, h2⟩ := hV3.2.2.1 i hi
            exact ⟨x, h1, owns_below h2 b4⟩, hV3.2.2.2.1, hV3.2.2.2.2⟩
          have bE4 := bE3.trans (b4.mono bE3.size)
          have hz := lt_of_cell x0
          have hP1 := lt_of_cell p0
          have hB4 : B ≤ w4.heap.size := by have := b4.size; omega
          have hBP : B ≤ P := by omega
          clear b4 own3 bE3 HS HPl hV3
          rcases HX.out with ⟨hbb, hi, hj, hkk⟩ | ⟨hbb, hno⟩
          · subst hbb
            have hin : ii < n := by have := HL.out; omega
            have HPut : Hid (Ch.putR ls ⟨rk, rv, rg⟩ = (0, ls.set ii ((ls.getD ii []).set jj ⟨rk, rv, rg⟩))) := by
              have e := Ch.put_old (r := ⟨rk, rv, rg⟩) HG.out hi hj hkk
              show _ = _
              rw [HD'.out (by rw [e]; simp; have := HL.out; omega), e]
            obtain ⟨b, ai, ci, hbe, hbl, cg, hvk, ho, hwi⟩ := hV.leafAt hin
            simp only [Option.some.injEq, Addr.mk.injEq, and_true] at hbe
            subst hbe
            have hgi0 := hV.2.2.2.2 ii _ g hvk rfl
            have Lg := owns_bounds hV.2.1
            clear HC' HD' HX hkk
            have HW := hid hwi
            clear hwi
            generalize hl : ls.getD ii [] = l at *
            generalize hL : l.length = L at *
            rcases ho.2 with ⟨_, h00⟩ | ⟨gi, cp, cur, hv, _⟩
            · omega
            simp only [Value.slice.injEq, true_and] at hv
            obtain ⟨rfl, rfl⟩ := hv
            have Lgi := owns_bounds ho
            have hgig : gi ≠ g := fun e => hgi0 (by rw [← e]; rfl)
            have hgiP : gi ≠ P := fun e => by
              have := HLt.out ii _ gi hvk rfl
              omega
            have ho1 : w4.drew.ownsRow B 49 3 (.slice (some ⟨gi, 0, none⟩) L ci) L (rcells l) := ho
            have s1 := ho1.stored (jj * 3) (.int .i64 rk)
            have s2 := s1.1.stored (jj * 3 + 1) (.int .i64 rv)
            have s3 := s2.1.stored (jj * 3 + 2) (.bool rg)
            have gr := gr_trans (gr_trans s1.2 s2.2) s3.2
            have e3 := rcells_set l jj ⟨rk, rv, rg⟩ (by omega)
            simp only at e3
            have own5 := s3.1
            rw [e3] at own5
            obtain ⟨bq, oq, heq, q0, q1, q2⟩ := (owns_cells ho1).row (k := jj) (by omega)
            simp only [Option.some.injEq, Addr.mk.injEq, and_true] at heq
            obtain ⟨rfl, rfl⟩ := heq
            simp only [Nat.zero_add] at q0 q1 q2
            have z0 := ho1.frozenAt (jj * 3)
            have z1 := ho1.frozenAt (jj * 3 + 1)
            have z2 := ho1.frozenAt (jj * 3 + 2)
            have hjn : (jj : Nat) < L := by omega
            clear s1 s2 s3 e3
            go_upto_region 12 with fail
            refine wp_region_noPanic ?_
            refine wp_region_held_drew (S := fun W' => W'.cell? ⟨P, 0, none⟩ = some (.int .i64 ii) ∧ W'.cell? ⟨P, 1, none⟩ = some (.int .i64 jj) ∧ W'.cell? ⟨g, ii, none⟩ = some (.slice (some ⟨gi, 0, none⟩) L ci) ∧ W'.cell? ⟨w.heap.size, 0, none⟩ = some (.int .i64 rk) ∧ W'.cell? ⟨w.heap.size, 1, none⟩ = some (.int .i64 rv) ∧ W'.cell? ⟨w.heap.size, 2, none⟩ = some (.bool rg)) (by kernel_rfl) (⟨p0, p1, cg, r0, r1, r2⟩) (fun hH => ?_)
            refine hTake (i := 0) (v := ?_) rfl (by kernel_rfl) (by kernel_rfl) (by kernel_rfl) (by rfl) ?_ hH ?_
            rotate_left
            · intro W hW; (try dsimp only at hW); go_simp <;> with_reducible rfl
            simp only [Act.put, List.setIfInBounds_toArray, List.set_cons_zero, List.set_cons_succ]
            refine hTake (i := 1) (v := ?_) rfl (by kernel_rfl) (by kernel_rfl) (by kernel_rfl) (by rfl) ?_ hH ?_
            rotate_left
            · intro W hW; (try dsimp only at hW); go_simp <;> with_reducible rfl
            simp only [Act.put, List.setIfInBounds_toArray, List.set_cons_zero, List.set_cons_succ]
            refine hTake (i := 2) (v := ?_) rfl (by kernel_rfl) (by kernel_rfl) (by kernel_rfl) (by rfl) ?_ hH ?_
            rotate_left
            · intro W hW; (try dsimp only at hW); go_simp <;> with_reducible rfl
            simp only [Act.put, List.setIfInBounds_toArray, List.set_cons_zero, List.set_cons_succ]
            refine hTake (i := 3) (v := ?_) rfl (by kernel_rfl) (by kernel_rfl) (by kernel_rfl) (by rfl) ?_ hH ?_
            rotate_left
            · intro W hW; (try dsimp only at hW); go_simp <;> with_reducible rfl
            simp only [Act.put, List.setIfInBounds_toArray, List.set_cons_zero, List.set_cons_succ]
            refine hTake (i := 4) (v := ?_) rfl (by kernel_rfl) (by kernel_rfl) (by kernel_rfl) (by rfl) ?_ hH ?_
            rotate_left
            · intro W hW; (try dsimp only at hW); go_simp <;> with_reducible rfl
            simp only [Act.put, List.setIfInBounds_toArray, List.set_cons_zero, List.set_cons_succ]
            refine hTake (i := 5) (v := ?_) rfl (by kernel_rfl) (by kernel_rfl) (by kernel_rfl) (by rfl) ?_ hH ?_
            rotate_left
            · intro W hW; (try dsimp only at hW); go_simp <;> with_reducible rfl
            simp only [Act.put, List.setIfInBounds_toArray, List.set_cons_zero, List.set_cons_succ]
            refine hTake (i := 6) (v := ?_) rfl (by kernel_rfl) (by kernel_rfl) (by kernel_rfl) (by rfl) ?_ hH ?_
            rotate_left
            · intro W hW; (try dsimp only at hW); go_simp <;> with_reducible rfl
            simp only [Act.put, List.setIfInBounds_toArray, List.set_cons_zero, List.set_cons_succ]
            refine hTake (i := 7) (v := ?_) rfl (by kernel_rfl) (by kernel_rfl) (by kernel_rfl) (by rfl) ?_ hH ?_
            rotate_left
            · intro W hW; (try dsimp only at hW); go_simp <;> with_reducible rfl
            simp only [Act.put, List.setIfInBounds_toArray, List.set_cons_zero, List.set_cons_succ]
            refine hTake (i := 8) (v := ?_) rfl (by kernel_rfl) (by kernel_rfl) (by kernel_rfl) (by rfl) ?_ hH ?_
            rotate_left
            · intro W hW; (try dsimp only at hW); go_simp <;> with_reducible rfl
            simp only [Act.put, List.setIfInBounds_toArray, List.set_cons_zero, List.set_cons_succ]
            refine hTake (i := 9) (v := ?_) rfl (by kernel_rfl) (by kernel_rfl) (by kernel_rfl) (by rfl) ?_ hH ?_
            rotate_left
            · intro W hW; (try dsimp only at hW); go_simp <;> with_reducible rfl
            simp only [Act.put, List.setIfInBounds_toArray, List.set_cons_zero, List.set_cons_succ]
            have b4d : Below w4.heap.size w4 w4.drew := (Below.refl _ _).drew
            have hV4 : OwnV w4.drew B (.slice (some ⟨g, 0, none⟩) n c3) n vs ls := hV
            have x0 : w4.drew.cell? ⟨w.heap.size + 1, 0, none⟩ = some (.int .i64 0) := x0
            have x1 : w4.drew.cell? ⟨w.heap.size + 1, 1, none⟩ = some (.slice none 0 0) := x1
            have f0 : w4.drew.frozen? ⟨w.heap.size + 1, 0, none⟩ = false := f0
            have f1 : w4.drew.frozen? ⟨w.heap.size + 1, 1, none⟩ = false := f1
            generalize w4.drew = wd at *
            refine wpAnyH_ready (rs := [10]) (by kernel_rfl) (by simp) ?_
            refine AllReadyH.cons rfl (fun K hK => ?_) AllReadyH.nil
            go_simp
            refine hK.out _ _ ?_ (fun hH => ?_)
            · exact ⟨grown_cell gr hH.1 (by simp; omega), grown_cell gr hH.2.1 (by simp; omega), grown_cell gr hH.2.2.1 (by simp; omega), grown_cell gr hH.2.2.2.1 (by simp; omega), grown_cell gr hH.2.2.2.2.1 (by simp; omega), grown_cell gr hH.2.2.2.2.2 (by simp; omega)⟩
            clear hK K
            refine wpAnyH_done (by kernel_rfl) ?_ _
            refine NoPanic.normal ?_
            clear hH
            have gr5 := gr_chain b4d gr
            have V5 := HW.out _ (l.set jj ⟨rk, rv, rg⟩) gr5 (by simpa using hL) (by rw [List.length_set, hL]; exact own5)
            have hzd : w.heap.size + 1 < wd.heap.size := lt_of_cell x0
            have f0 := (World.grownBy.frozen_far gr ⟨w.heap.size + 1, 0, none⟩ hzd (by simp; omega)).trans f0
            have f1 := (World.grownBy.frozen_far gr ⟨w.heap.size + 1, 1, none⟩ hzd (by simp; omega)).trans f1
            have x0 := grown_cell gr x0 (by simp; omega)
            have x1 := grown_cell gr x1 (by simp; omega)
            have bE5 := bE4.grown gr5 bE4.size (fun k hk => by simp at hk; omega)
            generalize (((wd.setCell ⟨gi, jj * 3, none⟩ (.int .i64 rk)).setCell ⟨gi, jj * 3 + 1, none⟩ (.int .i64 rv)).setCell ⟨gi, jj * 3 + 2, none⟩ (.bool rg)) = w5 at *
            clear own5 gr gr5 hV4 b4d
            go_wp2
            refine bodyPost_ret (v := .agg #[.int .i64 0, .slice (some ⟨g, 0, none⟩) n c3]) (by simp [results, Try.results18, go_sem, x0, x1]) rfl ⟨some ⟨g, 0, none⟩, n, c3, by rw [HPut.out], ?_, ?_⟩
            · rw [HPut.out]
              have O5 : OwnLv w5 B (.slice (some ⟨g, 0, none⟩) n c3) n (ls.set ii (l.set jj ⟨rk, rv, rg⟩)) := ⟨V5.1, vs, V5.2.1, V5.2.2.1, V5.2.2.2.1, V5.2.2.2.2⟩
              exact ((O5.box hwB _).box hwB _).base (by omega)
            · exact (bE5.setCell (p := ⟨w.heap.size + 1, 0, none⟩) (by simp) _).setCell (p := ⟨w.heap.size + 1, 1, none⟩) (by simp) _
          · subst hbb
            obtain ⟨p, hp⟩ : ∃ p, p = Ch.forAt ls rk n := ⟨_, rfl⟩
            have hpn : p < n := by rw [hp]; exact Ch.forAt_lt (by omega)
            have hpl : p < ls.length := by have := HL.out; omega
            have HLF : Hid (Ch.leafFor ls rk = (0, (p : Int))) := by
              show _ = _
              have e := HL.out
              have hb : Ch.inB rk 0 99 = true := by unfold Ch.inB; simp; omega
              have ha : Ch.asked ls rk = 0 := by unfold Ch.asked; simp [HG.out, hb]
              unfold Ch.leafFor
              rw [ha, if_neg (by simp), if_neg (by omega), hp, e]
            have HPA : Hid (Ch.put ls ⟨rk, rv, rg⟩ = ls.take p ++ Ch.halves ((ls.getD p []).take (Ch.insAt rk (ls.getD p [])) ++ [⟨rk, rv, rg⟩] ++ (ls.getD p []).drop (Ch.insAt rk (ls.getD p []))) ++ ls.drop (p + 1)) := by
              show _ = _
              refine Ch.put_new (r := ⟨rk, rv, rg⟩) (by omega) (by rw [hp]; have e := HL.out; subst e; rfl) (fun x hx => ?_)
              obtain ⟨j, hj, rfl⟩ := List.getElem_of_mem hx
              have := Ch.find_none hno p j hpl hj
              unfold Ch.keyAt Ch.rowAt at this
              rwa [Ch.getD_get _ _ j hj] at this
            have hl4 := (Ch.allFit_of_page (Ch.good_leaf HG.out p hpl).2).2
            have hl0 := (Ch.good_leaf HG.out p hpl).1
            clear hp hno HX p0 p1
            go_wp2_with fail
            refine (implLeafFor_any a n cap rk ls _ (h.below bE4) hs).mono ?_
            rintro e w5 ⟨he, b5⟩
            have he' : e = .returned (.agg #[.int .i64 0, .int .i64 p]) := by rw [he, HLF.out]
            subst he'
            clear he
            have hfd : ∀ W, (Instr.field 77 (.agg #[.int .i64 0, .int .i64 (p : Int)]) 1).run Try.prog W = .ok (.int .i64 (p : Int)) W := fun _ => by kernel_rfl
            have r0 := keep_cell b5 r0
            have r1 := keep_cell b5 r1
            have r2 := keep_cell b5 r2
            have x0 := keep_cell b5 x0
            have x1 := keep_cell b5 x1
            have f0 := ((bcell b5).2 (w.heap.size + 1) 0 hz).trans f0
            have f1 := ((bcell b5).2 (w.heap.size + 1) 1 hz).trans f1
            have hV : OwnV w5 B (.slice (some ⟨g, 0, none⟩) n c3) n vs ls := ⟨hV.1, owns_below hV.2.1 b5, fun i hi => by
              obtain ⟨x, h1, h2⟩ := hV.2.2.1 i hi
              exact ⟨x, h1, owns_below h2 b5⟩, hV.2.2.2.1, hV.2.2.2.2⟩
            have bE5 := bE4.trans (b5.mono bE4.size)
            have hz := lt_of_cell x0
            have hB5 : B ≤ w5.heap.size := by have := b5.size; omega
            clear b5 bE4
            obtain ⟨b, ai, ci, hbe, hbl, cg, hvk, ho, _⟩ := hV.leafAt hpn
            simp only [Option.some.injEq, Addr.mk.injEq, and_true] at hbe
            subst hbe
            have hgi0 := hV.2.2.2.2 p _ g hvk rfl
            have Lg := owns_bounds hV.2.1
            generalize hl : ls.getD p [] = l at *
            generalize hL : l.length = L at *
            rcases ho.2 with ⟨_, h00⟩ | ⟨gi, cp, cur, hv, _⟩
            · omega
            simp only [Value.slice.injEq, true_and] at hv
            obtain ⟨rfl, rfl⟩ := hv
            have Lgi := owns_bounds ho
            have hgig : gi ≠ g := fun e => hgi0 (by rw [← e]; rfl)
            have hngi : some gi ≠ some g := by simpa using hgig
            have hngh : some gi ≠ some w.heap.size := by simp; omega
            have hngx : some gi ≠ some (w.heap.size + 1) := by simp; omega
            generalize hl' : l.take (Ch.insAt rk l) ++ [⟨rk, rv, rg⟩] ++ l.drop (Ch.insAt rk l) = l' at *
            have HM : Hid (l'.length = L + 1) := by
              show _ = _
              rw [← hl']
              have := Ch.insAt_le rk l
              simp
              omega
            have hIns : ∀ W, W.ownsRow B 49 3 (.slice (some ⟨gi, 0, none⟩) L ci) L (rcells l) → B ≤ W.heap.size → Calls Try.prog 37 #[.slice (some ⟨gi, 0, none⟩) L ci, .agg #[.int .i64 rk, .int .i64 rv, .bool rg]] W fun e w' => ∃ g' c', e = .returned (.slice (some ⟨g', 0, none⟩) (L + 1) c') ∧ w'.ownsRow B 49 3 (.slice (some ⟨g', 0, none⟩) (L + 1) c') (L + 1) (rcells l') ∧ W.grownBy w' (some gi) ∧ (g' = gi ∨ W.heap.size ≤ g') := fun W hW hBW => by
              rw [← hl']
              exact insertRow_any B gi L ci l rk rv rg W hW (by omega) hBW
            generalize hMe : L + 1 = M at *
            have HMe := hid hMe
            clear hMe
            have HI := hid hIns
            clear hl' hIns
            go_upto_region 15 with fail
            go_cut [10] (fun s wx => s = .int .i64 p ∧ ∃ g6 c6 vs', OwnV wx B (.slice (some ⟨g, 0, none⟩) n c3) n vs' (ls.set p l') ∧ wx.cell? ⟨g, p, none⟩ = some (.slice (some ⟨g6, 0, none⟩) M c6) ∧ wx.cell? ⟨w.heap.size + 1, 0, none⟩ = some (.int .i64 0) ∧ wx.cell? ⟨w.heap.size + 1, 1, none⟩ = some (.slice none 0 0) ∧ wx.frozen? ⟨w.heap.size + 1, 0, none⟩ = false ∧ wx.frozen? ⟨w.heap.size + 1, 1, none⟩ = false ∧ Below w.heap.size w wx ∧ B ≤ wx.heap.size)
            case first =>
              refine wp_region_noPanic ?_
              refine wp_region_held_drew (S := fun _ => True) (by kernel_rfl) trivial (fun hH => ?_)
              refine hTake (i := 0) (v := ?_) rfl (by kernel_rfl) (by kernel_rfl) (by kernel_rfl) (by rfl) ?_ hH ?_
              rotate_left
              · intro W hW; (try dsimp only at hW); go_simp <;> with_reducible rfl
              simp only [Act.put, List.setIfInBounds_toArray, List.set_cons_zero, List.set_cons_succ]
              refine hTake (i := 1) (v := ?_) rfl (by kernel_rfl) (by kernel_rfl) (by kernel_rfl) (by rfl) ?_ hH ?_
              rotate_left
              · intro W hW; (try dsimp only at hW); go_simp <;> with_reducible rfl
              simp only [Act.put, List.setIfInBounds_toArray, List.set_cons_zero, List.set_cons_succ]
              refine hTake (i := 2) (v := ?_) rfl (by kernel_rfl) (by kernel_rfl) (by kernel_rfl) (by rfl) ?_ hH ?_
              rotate_left
              · intro W hW; (try dsimp only at hW); go_simp <;> with_reducible rfl
              simp only [Act.put, List.setIfInBounds_toArray, List.set_cons_zero, List.set_cons_succ]
              refine hTake (i := 3) (v := ?_) rfl (by kernel_rfl) (by kernel_rfl) (by kernel_rfl) (by rfl) ?_ hH ?_
              rotate_left
              · intro W hW; (try dsimp only at hW); go_simp <;> with_reducible rfl
              simp only [Act.put, List.setIfInBounds_toArray, List.set_cons_zero, List.set_cons_succ]
              refine hTake (i := 4) (v := ?_) rfl (by kernel_rfl) (by kernel_rfl) (by kernel_rfl) (by rfl) ?_ hH ?_
              rotate_left
              · intro W hW; (try dsimp only at hW); go_simp <;> with_reducible rfl
              simp only [Act.put, List.setIfInBounds_toArray, List.set_cons_zero, List.set_cons_succ]
              refine hTake (i := 5) (v := ?_) rfl (by kernel_rfl) (by kernel_rfl) (by kernel_rfl) (by rfl) ?_ hH ?_
              rotate_left
              · intro W hW; (try dsimp only at hW); go_simp <;> with_reducible rfl
              simp only [Act.put, List.setIfInBounds_toArray, List.set_cons_zero, List.set_cons_succ]
              have r0 : w5.drew.cell? ⟨w.heap.size, 0, none⟩ = some (.int .i64 rk) := r0
              have r1 : w5.drew.cell? ⟨w.heap.size, 1, none⟩ = some (.int .i64 rv) := r1
              have r2 : w5.drew.cell? ⟨w.heap.size, 2, none⟩ = some (.bool rg) := r2
              have x0 : w5.drew.cell? ⟨w.heap.size + 1, 0, none⟩ = some (.int .i64 0) := x0
              have x1 : w5.drew.cell? ⟨w.heap.size + 1, 1, none⟩ = some (.slice none 0 0) := x1
              have f0 : w5.drew.frozen? ⟨w.heap.size + 1, 0, none⟩ = false := f0
              have f1 : w5.drew.frozen? ⟨w.heap.size + 1, 1, none⟩ = false := f1
              have cg : w5.drew.cell? ⟨g, p, none⟩ = some (.slice (some ⟨gi, 0, none⟩) L ci) := cg
              have hV : OwnV w5.drew B (.slice (some ⟨g, 0, none⟩) n c3) n vs ls := hV
              have ho : w5.drew.ownsRow B 49 3 (.slice (some ⟨gi, 0, none⟩) L ci) L (rcells l) := ho
              have bE5 : Below w.heap.size w w5.drew := bE5.drew
              have hB5 : B ≤ w5.drew.heap.size := hB5
              have hz : w.heap.size + 1 < w5.drew.heap.size := hz
              generalize w5.drew = wd at *
              refine wpAnyH_ready (rs := [6, 7]) (by kernel_rfl) (by simp) ?_
              refine AllReadyH.cons rfl (fun K hK => ?_) (AllReadyH.cons rfl (fun K hK => ?_) AllReadyH.nil)
              focus
                go_simp
                refine hK.out _ _ trivial (fun hH => ?_)
                clear hK K
                refine wpAnyH_ready (rs := [7]) (by kernel_rfl) (by simp) ?_
                refine AllReadyH.cons rfl (fun K hK => ?_) AllReadyH.nil
                go_simp
                refine hK.out _ _ trivial (fun hH => ?_)
                clear hK K
                refine wpAnyH_ready (rs := [8]) (by kernel_rfl) (by simp) ?_
                refine AllReadyH.cons rfl (fun K hK => ?_) AllReadyH.nil
                go_simp
                refine (HI.out wd ho hB5).mono ?_
                rintro e w6 ⟨g6, c6, rfl, own6, gr6, at6⟩
                go_wp2_with fail
                refine hK.out _ _ trivial (fun hH => ?_)
                clear hK K
                refine hTake (i := 9) (v := ?_) rfl (by kernel_rfl) (by kernel_rfl) (by kernel_rfl) (by rfl) ?_ hH ?_
                rotate_left
                · intro W hW; (try dsimp only at hW); go_simp <;> with_reducible rfl
                simp only [Act.put, List.setIfInBounds_toArray, List.set_cons_zero, List.set_cons_succ]
                refine hTake (i := 10) (v := ?_) rfl (by kernel_rfl) (by kernel_rfl) (by kernel_rfl) (by rfl) ?_ hH ?_
                rotate_left
                · intro W hW; (try dsimp only at hW); go_simp <;> with_reducible rfl
                simp only [Act.put, List.setIfInBounds_toArray, List.set_cons_zero, List.set_cons_succ]
                have own6' : w6.ownsRow B 49 3 (.slice (some ⟨g6, 0, none⟩) M c6) l'.length (rcells l') := by rw [HM.out]; exact own6
                have hat : ∀ q, (Value.slice (some ⟨g6, 0, none⟩) M c6).ownBlock = some q → (Value.slice (some ⟨gi, 0, none⟩) L ci).ownBlock = some q ∨ wd.heap.size ≤ q := fun q hq => by
                  simp [Value.ownBlock] at hq
                  subst hq
                  rcases at6 with e | e
                  · exact .inl (by rw [e]; rfl)
                  · exact .inr e
                have V7 := hV.redo (x' := .slice (some ⟨g6, 0, none⟩) M c6) hpn hvk gr6 hat own6'
                have og := owns_grown hV.2.1 gr6 (fun q hq e => by simp [Value.ownBlock] at hq; subst hq; exact hngi e)
                have fg6 := og.frozenAt p
                have gs := (og.stored p (.slice (some ⟨g6, 0, none⟩) M c6)).2
                have cg6 := grown_cell gr6 cg hngi
                have f0 := (World.grownBy.frozen_far gr6 ⟨w.heap.size + 1, 0, none⟩ hz (by simp; omega)).trans f0
                have f1 := (World.grownBy.frozen_far gr6 ⟨w.heap.size + 1, 1, none⟩ hz (by simp; omega)).trans f1
                have x0 := grown_cell gr6 x0 hngx
                have x1 := grown_cell gr6 x1 hngx
                have hz := lt_of_cell x0
                have bE6 := bE5.grown gr6 bE5.size (fun k hk => by simp at hk; omega)
                have bE7 := bE6.grown gs bE6.size (fun k hk => by simp at hk; omega)
                have hB7 : B ≤ (w6.setCell ⟨g, p, none⟩ (.slice (some ⟨g6, 0, none⟩) M c6)).heap.size := by have := gr6.size; have := gs.size; omega
                refine wpAnyH_ready (rs := [11]) (by kernel_rfl) (by simp) ?_
                refine AllReadyH.cons rfl (fun K hK => ?_) AllReadyH.nil
                go_simp
                refine hK.out _ _ trivial (fun hH => ?_)
                clear hK K
                refine wpAnyH_done (by kernel_rfl) ?_ _
                refine NoPanic.normal ?_
                go_wp2_with fail
                go_meet
                exact ⟨rfl, g6, c6, _, V7, by simp [go_sem, cg6], grown_cell gs x0 (by simp; omega), grown_cell gs x1 (by simp; omega), (World.grownBy.frozen_far gs ⟨w.heap.size + 1, 0, none⟩ hz (by simp; omega)).trans f0, (World.grownBy.frozen_far gs ⟨w.heap.size + 1, 1, none⟩ hz (by simp; omega)).trans f1, bE7, hB7⟩
              focus
                go_simp
                refine hK.out _ _ trivial (fun hH => ?_)
                clear hK K
                refine wpAnyH_ready (rs := [6]) (by kernel_rfl) (by simp) ?_
                refine AllReadyH.cons rfl (fun K hK => ?_) AllReadyH.nil
                go_simp
                refine hK.out _ _ trivial (fun hH => ?_)
                clear hK K
                refine wpAnyH_ready (rs := [8]) (by kernel_rfl) (by simp) ?_
                refine AllReadyH.cons rfl (fun K hK => ?_) AllReadyH.nil
                go_simp
                refine (HI.out wd ho hB5).mono ?_
                rintro e w6 ⟨g6, c6, rfl, own6, gr6, at6⟩
                go_wp2_with fail
                refine hK.out _ _ trivial (fun hH => ?_)
                clear hK K
                refine hTake (i := 9) (v := ?_) rfl (by kernel_rfl) (by kernel_rfl) (by kernel_rfl) (by rfl) ?_ hH ?_
                rotate_left
                · intro W hW; (try dsimp only at hW); go_simp <;> with_reducible rfl
                simp only [Act.put, List.setIfInBounds_toArray, List.set_cons_zero, List.set_cons_succ]
                refine hTake (i := 10) (v := ?_) rfl (by kernel_rfl) (by kernel_rfl) (by kernel_rfl) (by rfl) ?_ hH ?_
                rotate_left
                · intro W hW; (try dsimp only at hW); go_simp <;> with_reducible rfl
                simp only [Act.put, List.setIfInBounds_toArray, List.set_cons_zero, List.set_cons_succ]
                have own6' : w6.ownsRow B 49 3 (.slice (some ⟨g6, 0, none⟩) M c6) l'.length (rcells l') := by rw [HM.out]; exact own6
                have hat : ∀ q, (Value.slice (some ⟨g6, 0, none⟩) M c6).ownBlock = some q → (Value.slice (some ⟨gi, 0, none⟩) L ci).ownBlock = some q ∨ wd.heap.size ≤ q := fun q hq => by
                  simp [Value.ownBlock] at hq
                  subst hq
                  rcases at6 with e | e
                  · exact .inl (by rw [e]; rfl)
                  · exact .inr e
                have V7 := hV.redo (x' := .slice (some ⟨g6, 0, none⟩) M c6) hpn hvk gr6 hat own6'
                have og := owns_grown hV.2.1 gr6 (fun q hq e => by simp [Value.ownBlock] at hq; subst hq; exact hngi e)
                have fg6 := og.frozenAt p
                have gs := (og.stored p (.slice (some ⟨g6, 0, none⟩) M c6)).2
                have cg6 := grown_cell gr6 cg hngi
                have f0 := (World.grownBy.frozen_far gr6 ⟨w.heap.size + 1, 0, none⟩ hz (by simp; omega)).trans f0
                have f1 := (World.grownBy.frozen_far gr6 ⟨w.heap.size + 1, 1, none⟩ hz (by simp; omega)).trans f1
                have x0 := grown_cell gr6 x0 hngx
                have x1 := grown_cell gr6 x1 hngx
                have hz := lt_of_cell x0
                have bE6 := bE5.grown gr6 bE5.size (fun k hk => by simp at hk; omega)
                have bE7 := bE6.grown gs bE6.size (fun k hk => by simp at hk; omega)
                have hB7 : B ≤ (w6.setCell ⟨g, p, none⟩ (.slice (some ⟨g6, 0, none⟩) M c6)).heap.size := by have := gr6.size; have := gs.size; omega
                refine wpAnyH_ready (rs := [11]) (by kernel_rfl) (by simp) ?_
                refine AllReadyH.cons rfl (fun K hK => ?_) AllReadyH.nil
                go_simp
                refine hK.out _ _ trivial (fun hH => ?_)
                clear hK K
                refine wpAnyH_done (by kernel_rfl) ?_ _
                refine NoPanic.normal ?_
                go_wp2_with fail
                go_meet
                exact ⟨rfl, g6, c6, _, V7, by simp [go_sem, cg6], grown_cell gs x0 (by simp; omega), grown_cell gs x1 (by simp; omega), (World.grownBy.frozen_far gs ⟨w.heap.size + 1, 0, none⟩ hz (by simp; omega)).trans f0, (World.grownBy.frozen_far gs ⟨w.heap.size + 1, 1, none⟩ hz (by simp; omega)).trans f1, bE7, hB7⟩
            case rest =>
              obtain ⟨w7, hwn⟩ : ∃ x : World, x = wc := ⟨_, rfl⟩
              subst hwn
              obtain ⟨rfl, g6, c6, vs', V7, cg7, x0, x1, f0, f1, bE7, hB7⟩ := hcut
              have hz := lt_of_cell x0
              have O7 : OwnLv w7 B (.slice (some ⟨g, 0, none⟩) n c3) n (ls.set p l') := ⟨V7.1, vs', V7.2.1, V7.2.2.1, V7.2.2.2.1, V7.2.2.2.2⟩
              have hM5 : M ≤ 5 := by have := HMe.out; omega
              have Lg7 := lt_of_cell cg7
              clear V7 HI
              by_cases h4 : M ≤ 4
              · have h4i : (M : Int) ≤ 4 := by omega
                have HPut : Hid (Ch.putR ls ⟨rk, rv, rg⟩ = (0, ls.set p l')) := by
                  have e : Ch.put ls ⟨rk, rv, rg⟩ = ls.set p l' := by
                    rw [HPA.out, Ch.halves, if_pos (by rw [HM.out]; exact h4), List.set_eq_take_append_cons_drop, if_pos hpl]
                    simp
                  show _ = _
                  rw [HD'.out (by rw [e]; simp; have := HL.out; omega), e]
                clear HC' HD' HPA
                go_wp2
                refine bodyPost_ret (v := .agg #[.int .i64 0, .slice (some ⟨g, 0, none⟩) n c3]) (by simp [results, Try.results18, go_sem, x0, x1]) rfl ⟨some ⟨g, 0, none⟩, n, c3, by rw [HPut.out], ?_, ?_⟩
                · rw [HPut.out]
                  exact ((O7.box hwB _).box hwB _).base (by omega)
                · exact (bE7.setCell (p := ⟨w.heap.size + 1, 0, none⟩) (by simp) _).setCell (p := ⟨w.heap.size + 1, 1, none⟩) (by simp) _
              · have h4i : ¬ (M : Int) ≤ 4 := by omega
                have HE : Hid (Ch.put ls ⟨rk, rv, rg⟩ = ls.take p ++ [l'.take (M / 2), l'.drop (M / 2)] ++ ls.drop (p + 1)) := by
                  show _ = _
                  rw [HPA.out, Ch.halves, if_neg (by rw [HM.out]; exact h4), HM.out]
                have HLen : Hid ((Ch.put ls ⟨rk, rv, rg⟩).length = n + 1) := by
                  show _ = _
                  rw [HE.out]
                  have := HL.out
                  simp
                  omega
                by_cases h60 : n = 60
                · have hni : ((n : Int) == 60) = true := by simp; omega
                  have HPut := hid (HC'.out (by rw [HLen.out]; omega))
                  clear HC' HD' HPA HE HLen h60
                  go_wp2
                  refine bodyPost_ret (v := .agg #[.int .i64 2, .slice none 0 0]) (by simp [results, Try.results18, go_sem, x0, x1]) rfl ⟨none, 0, 0, by rw [HPut.out], by rw [HPut.out]; exact OwnLv.nil _ _, ?_⟩
                  exact (bE7.setCell (p := ⟨w.heap.size + 1, 0, none⟩) (by simp) _).setCell (p := ⟨w.heap.size + 1, 1, none⟩) (by simp) _
                · have hni : ((n : Int) == 60) = false := by simp; omega
                  have HPut := hid (HD'.out (by rw [HLen.out]; omega))
                  have hgd : (ls.set p l').getD p [] = l' := by simp [List.getD, hpl]
                  have htk : (ls.set p l').take p = ls.take p := by rw [List.take_set, List.set_eq_of_length_le (by simp; omega)]
                  have hdk : (ls.set p l').drop (p + 1) = ls.drop (p + 1) := by rw [List.drop_set, if_pos (by omega)]
                  have HML := HM.out
                  have hSp := splitLeaf_any B g n c3 p (ls.set p l') w7 O7 hpn (by omega) hB7 (by rw [hgd, HML]; omega) (by rw [hgd, HML]; omega)
                  rw [hgd, htk, hdk, HML, ← HE.out] at hSp
                  clear HC' HD' HPA HE HML hgd htk hdk
                  go_wp2_with fail
                  refine hSp.mono ?_
                  rintro e w8 ⟨g8, c8, rfl, own8, b8⟩
                  have x0 := (b8.cell (p := ⟨w.heap.size + 1, 0, none⟩) hwB).trans x0
                  have x1 := (b8.cell (p := ⟨w.heap.size + 1, 1, none⟩) hwB).trans x1
                  have f0 := (b8.frozen (p := ⟨w.heap.size + 1, 0, none⟩) hwB).trans f0
                  have f1 := (b8.frozen (p := ⟨w.heap.size + 1, 1, none⟩) hwB).trans f1
                  have bE8 := bE7.trans (b8.mono (by omega))
                  go_wp2
                  refine bodyPost_ret (v := .agg #[.int .i64 0, .slice (some ⟨g8, 0, none⟩) (n + 1) c8]) (by simp [results, Try.results18, go_sem, x0, x1]) rfl ⟨some ⟨g8, 0, none⟩, n + 1, c8, by rw [HPut.out], ?_, ?_⟩
                  · rw [HPut.out]
                    exact ((own8.box hwB _).box hwB _).base (by omega)
                  · exact (bE8.setCell (p := ⟨w.heap.size + 1, 0, none⟩) (by simp) _).setCell (p := ⟨w.heap.size + 1, 1, none⟩) (by simp) _
    · have HR := hid (HB.out hc hd)
      clear HB HC HD
      go_wp2
      refine bodyPost_ret (v := .agg #[.int .i64 d, .slice none 0 0]) (by simp [results, Try.results18, go_sem, x0, x1]) rfl ⟨none, 0, 0, by rw [HR.out], by rw [HR.out]; exact OwnLv.nil _ _, ?_⟩
      exact (bE.setCell (p := ⟨w.heap.size + 1, 0, none⟩) (by simp) _).setCell (p := ⟨w.heap.size + 1, 1, none⟩) (by simp) _
  · have HR := hid (HA.out hc)
    clear HA HB HC HD
    go_wp2
    refine bodyPost_ret (v := .agg #[.int .i64 c, .slice none 0 0]) (by simp [results, Try.results18, go_sem, x0, x1]) rfl ⟨none, 0, 0, by rw [HR.out], by rw [HR.out]; exact OwnLv.nil _ _, ?_⟩
    exact (bE.setCell (p := ⟨w.heap.size + 1, 0, none⟩) (by simp) _).setCell (p := ⟨w.heap.size + 1, 1, none⟩) (by simp) _
end Go.Proofs.Ytjjbjdjkcckgmaa
