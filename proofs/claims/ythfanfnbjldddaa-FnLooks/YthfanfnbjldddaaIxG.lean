
/- IndexFault of the model. -/
import Derived.Test.YthfanfnbjldddaaPrP
import Derived.Test.YthfanfnbjldddaaLvF
namespace Go.Proofs.Ythfanfnbjldddaa
open Go.RowKit Go.Maps

set_option maxHeartbeats 1000000 in
theorem behind_any (xt xm yt ym : Int) (W : World) : Calls Try.prog 83 #[.agg #[.int .i64 xt, .int .i64 xm], .agg #[.int .i64 yt, .int .i64 ym]] W fun e w' => e = .returned (.bool (Ch.ltE ⟨xt, xm⟩ ⟨yt, ym⟩)) ∧ Below W.heap.size W w' := by
  have kb : Below W.heap.size W ((W.alloc (.cells #[.int .i64 xt, .int .i64 xm] 60)).alloc (.cells #[.int .i64 yt, .int .i64 ym] 60)) := ((Below.refl _ _).alloc (Nat.le_refl _) _).alloc (by simp) _
  by_cases h1 : xt = yt
  · have e1 : (xt != yt) = false := by simpa using h1
    have HE : Hid (Ch.ltE ⟨xt, xm⟩ ⟨yt, ym⟩ = decide (xm < ym)) := by
      show _ = _
      unfold Ch.ltE
      have : ¬ xt < yt := by omega
      simp [h1]
    clear h1
    go_enter Try.func83, Try.ntmps83
    go_wp2
    go_ret
    exact ⟨by rw [HE.out]; (try simp), kb⟩
  · have e1 : (xt != yt) = true := by simpa using h1
    have HE : Hid (Ch.ltE ⟨xt, xm⟩ ⟨yt, ym⟩ = decide (xt < yt)) := by
      show _ = _
      unfold Ch.ltE
      simp [h1]
    clear h1
    go_enter Try.func83, Try.ntmps83
    go_wp2
    go_ret
    exact ⟨by rw [HE.out]; (try simp), kb⟩

set_option linter.unusedSimpArgs false in
set_option maxRecDepth 20000 in
set_option maxHeartbeats 4000000 in
theorem specIx_any (a : Option Addr) (n cap : Nat) (ps : List Ch.Hold) (w : World) (h : CellsAt w a (n * 2) (hcells ps)) (hn : n ≤ 1048576) :
    Calls Try.prog 32 #[.slice a n cap] w fun e w' => e = .returned (.int .i64 (Ch.ixFault ps)) ∧ Below w.heap.size w w' := by
  have HL := h.hlen
  by_cases hbig : 240 < n
  · have HF : Hid (Ch.ixFault ps = 2) := Ch.ix_big (by have := HL.out; omega)
    go_enter Try.func32, Try.ntmps32
    go_wp2
    go_ret
    exact ⟨ret_int HF.out.symm, Below.refl _ _⟩
  have hn4 : n ≤ 240 := by omega
  have hpl : ps.length ≤ 240 := by have := HL.out; omega
  clear hbig
  go_enter Try.func32, Try.ntmps32
  go_wp2
  go_loopw [3] (fun i wr => ∃ k : Nat, k ≤ n ∧ i = .int .i64 k ∧ Hid (Ch.ixRest ps 0 = Ch.ixRest ps k) ∧ Below w.heap.size w wr) (fun i _ => n - (intOf i).toNat)
  case atStart => exact ⟨0, Nat.zero_le _, rfl, hid rfl, Below.refl _ _⟩
  case round =>
    obtain ⟨k, hk, rfl, HH, hB⟩ := hrel
    by_cases hlt : k < n
    · have hkl : k < ps.length := by have := HL.out; omega
      have HS := hid (fun c (he : Ch.ixAt ps k = c) (hc : (c != 0) = true) => Ch.ix_code hpl (HH.out.trans ((Ch.ix_at hkl (by rw [he]; exact hc)).trans he)) hc)
      have HN := hid (fun (he : Ch.ixAt ps k = 0) => HH.out.trans (Ch.ix_on hkl (by rw [he]; rfl)))
      have HRG := hid (fun hr => Ch.ixAt_range (ps := ps) (k := k) hr)
      have HFM := hid (fun hr h0 hl => Ch.ixAt_form (ps := ps) (k := k) hr h0 hl)
      have HF0 := hid (fun hr h0 => Ch.ixAt_first (ps := ps) (k := k) hr h0)
      have HFN := hid (fun hr hl => Ch.ixAt_fine (ps := ps) (k := k) hr hl)
      obtain ⟨g, off, hao, q0, q1⟩ := (h.below hB).hold hlt
      have HP := hid (fun (h0 : 0 < k) => (h.below hB).hold (k := k - 1) (by omega))
      have hbl := lt_of_cell q0
      generalize ps.getD (k - 1) Ch.Hold.zero = pr at *
      obtain ⟨pt, pm⟩ := pr
      generalize ps.getD k Ch.Hold.zero = r at *
      obtain ⟨rt, rm⟩ := r
      subst hao
      simp only at q0 q1 HRG HFM HF0 HFN HP
      have IM := fun W => value_any rt W
      have IT := fun W => key_any rm W
      cases hm : Ch.inB rt 0 9999
      · rw [hm] at IM
        replace HS := hid (HS.out 3 (HRG.out (by rw [hm]; rfl)) rfl)
        clear HN HRG HFM HF0 HFN IT HP
        go_wp2_with fail
        refine (IM _).mono ?_
        rintro e w' ⟨rfl, rfl⟩
        go_wp2
        go_ret
        exact ⟨ret_int HS.out.symm, hB⟩
      rw [hm] at IM
      cases ht : Ch.inB rm 0 99
      · rw [ht] at IT
        replace HS := hid (HS.out 3 (HRG.out (by rw [hm, ht]; rfl)) rfl)
        clear HN HRG HFM HF0 HFN HP
        go_wp2_with fail
        refine (IM _).mono ?_
        rintro e w' ⟨rfl, rfl⟩
        go_wp2_with fail
        refine (IT _).mono ?_
        rintro e w' ⟨rfl, rfl⟩
        go_wp2
        go_ret
        exact ⟨ret_int HS.out.symm, hB⟩
      rw [ht] at IT
      have hr : (!Ch.inB rt 0 9999 || !Ch.inB rm 0 99) = false := by rw [hm, ht]; rfl
      clear HRG
      by_cases h0 : 0 < k
      rotate_left
      · have hk0 : k = 0 := by omega
        have HX := hid (HF0.out hr hk0)
        replace HN := hid (HN.out HX.out)
        subst hk0
        have hd0 : decide ((0 : Int) < ((0 : Nat) : Int)) = false := by simp
        simp only [Nat.zero_mul, Nat.add_zero] at q0 q1
        clear HS HFM HF0 HFN HP hr hm ht
        go_wp2_with fail
        refine (IM _).mono ?_
        rintro e w' ⟨rfl, rfl⟩
        go_wp2_with fail
        refine (IT _).mono ?_
        rintro e w' ⟨rfl, rfl⟩
        clear IM IT
        go_wp2_with fail
        refine wp_region_noPanic ?_
        refine wp_region_held_drew (S := fun W' => Below w.heap.size w W') (by kernel_rfl) (hB.drew) (fun hH => ?_)
        refine hTake (i := 0) (v := ?_) rfl (by kernel_rfl) (by kernel_rfl) (by kernel_rfl) (by rfl) ?_ hH ?_
        rotate_left
        · intro W hW; (try dsimp only at hW); go_simp <;> with_reducible rfl
        simp only [Act.put, List.setIfInBounds_toArray, List.set_cons_zero, List.set_cons_succ]
        refine hTake (i := 1) (v := ?_) rfl (by kernel_rfl) (by kernel_rfl) (by kernel_rfl) (by rfl) ?_ hH ?_
        rotate_left
        · intro W hW; (try dsimp only at hW); go_simp <;> with_reducible rfl
        simp only [Act.put, List.setIfInBounds_toArray, List.set_cons_zero, List.set_cons_succ]
        refine hTake (i := 2) (v := ?_) rfl (by kernel_rfl) (by kernel_rfl) (by kernel_rfl) (by rfl) ?_ hH ?_
        rotate_left
        · intro W hW; (try dsimp only at hW); go_simp <;> with_reducible rfl
        simp only [Act.put, List.setIfInBounds_toArray, List.set_cons_zero, List.set_cons_succ]
        refine hSkip (i := 3) rfl (by kernel_rfl) (by kernel_rfl) (by kernel_rfl) (by rfl) hH ?_
        simp only [Act.put, List.setIfInBounds_toArray, List.set_cons_zero, List.set_cons_succ]
        refine hSkip (i := 4) rfl (by kernel_rfl) (by kernel_rfl) (by kernel_rfl) (by rfl) hH ?_
        simp only [Act.put, List.setIfInBounds_toArray, List.set_cons_zero, List.set_cons_succ]
        refine hSkip (i := 5) rfl (by kernel_rfl) (by kernel_rfl) (by kernel_rfl) (by rfl) hH ?_
        simp only [Act.put, List.setIfInBounds_toArray, List.set_cons_zero, List.set_cons_succ]
        refine hSkip (i := 6) rfl (by kernel_rfl) (by kernel_rfl) (by kernel_rfl) (by rfl) hH ?_
        simp only [Act.put, List.setIfInBounds_toArray, List.set_cons_zero, List.set_cons_succ]
        refine hSkip (i := 7) rfl (by kernel_rfl) (by kernel_rfl) (by kernel_rfl) (by rfl) hH ?_
        simp only [Act.put, List.setIfInBounds_toArray, List.set_cons_zero, List.set_cons_succ]
        refine hSkip (i := 8) rfl (by kernel_rfl) (by kernel_rfl) (by kernel_rfl) (by rfl) hH ?_
        simp only [Act.put, List.setIfInBounds_toArray, List.set_cons_zero, List.set_cons_succ]
        refine hSkip (i := 9) rfl (by kernel_rfl) (by kernel_rfl) (by kernel_rfl) (by rfl) hH ?_
        simp only [Act.put, List.setIfInBounds_toArray, List.set_cons_zero, List.set_cons_succ]
        refine hSkip (i := 10) rfl (by kernel_rfl) (by kernel_rfl) (by kernel_rfl) (by rfl) hH ?_
        simp only [Act.put, List.setIfInBounds_toArray, List.set_cons_zero, List.set_cons_succ]
        refine hSkip (i := 11) rfl (by kernel_rfl) (by kernel_rfl) (by kernel_rfl) (by rfl) hH ?_
        simp only [Act.put, List.setIfInBounds_toArray, List.set_cons_zero, List.set_cons_succ]
        refine hSkip (i := 12) rfl (by kernel_rfl) (by kernel_rfl) (by kernel_rfl) (by rfl) hH ?_
        simp only [Act.put, List.setIfInBounds_toArray, List.set_cons_zero, List.set_cons_succ]
        refine hSkip (i := 13) rfl (by kernel_rfl) (by kernel_rfl) (by kernel_rfl) (by rfl) hH ?_
        simp only [Act.put, List.setIfInBounds_toArray, List.set_cons_zero, List.set_cons_succ]
        refine hTake (i := 14) (v := ?_) rfl (by kernel_rfl) (by kernel_rfl) (by kernel_rfl) (by rfl) ?_ hH ?_
        rotate_left
        · intro W hW; (try dsimp only at hW); go_simp <;> with_reducible rfl
        simp only [Act.put, List.setIfInBounds_toArray, List.set_cons_zero, List.set_cons_succ]
        refine wpAnyH_done (by kernel_rfl) ?_ _
        refine NoPanic.normal ?_
        have hB2 := hH
        clear hH
        go_wp2
        go_roundw
        case rel => exact ⟨0 + 1, by omega, by go_num, HN, hB2⟩
        case measure => simp [intOf]; omega
      obtain ⟨g', off', hg', u0, u1⟩ := HP.out h0
      cases hg'
      have IC := fun W => behind_any pt pm rt rm W
      obtain ⟨i, hki⟩ : ∃ i, Hid (k - 1 = i) := ⟨_, rfl⟩
      rw [hki.out] at u0 u1
      have hd0 : (0 : Int) < (k : Int) := by omega
      have hk1 : i < n := by have := hki.out; omega
      have hwi : IntKind.i64.wrap ((k : Int) - 1) = (i : Int) := by rw [IntWalk.i64_in _ ⟨by omega, by omega⟩]; have := hki.out; omega
      clear HP HF0
      cases hl : Ch.ltE ⟨pt, pm⟩ ⟨rt, rm⟩
      · rw [hl] at IC
        replace HS := hid (HS.out 1 (HFM.out hr h0 hl) rfl)
        clear HN HFM HFN hr hm ht hl
        go_wp2_with fail
        refine (IM _).mono ?_
        rintro e w' ⟨rfl, rfl⟩
        go_wp2_with fail
        refine (IT _).mono ?_
        rintro e w' ⟨rfl, rfl⟩
        clear IM IT
        go_wp2_with fail
        refine wp_region_noPanic ?_
        refine wp_region_held_drew (S := fun W' => W'.cell? ⟨g, off + i * 2, none⟩ = some (.int .i64 pt) ∧ W'.cell? ⟨g, off + i * 2 + 1, none⟩ = some (.int .i64 pm) ∧ W'.cell? ⟨g, off + k * 2, none⟩ = some (.int .i64 rt) ∧ W'.cell? ⟨g, off + k * 2 + 1, none⟩ = some (.int .i64 rm) ∧ Below w.heap.size w W') (by kernel_rfl) (⟨u0, u1, q0, q1, hB.drew⟩) (fun hH => ?_)
        refine hTake (i := 0) (v := ?_) rfl (by kernel_rfl) (by kernel_rfl) (by kernel_rfl) (by rfl) ?_ hH ?_
        rotate_left
        · intro W hW; (try dsimp only at hW); go_simp <;> with_reducible rfl
        simp only [Act.put, List.setIfInBounds_toArray, List.set_cons_zero, List.set_cons_succ]
        refine hTake (i := 1) (v := ?_) rfl (by kernel_rfl) (by kernel_rfl) (by kernel_rfl) (by rfl) ?_ hH ?_
        rotate_left
        · intro W hW; (try dsimp only at hW); go_simp <;> with_reducible rfl
        simp only [Act.put, List.setIfInBounds_toArray, List.set_cons_zero, List.set_cons_succ]
        refine hTake (i := 2) (v := ?_) rfl (by kernel_rfl) (by kernel_rfl) (by kernel_rfl) (by rfl) ?_ hH ?_
        rotate_left
        · intro W hW; (try dsimp only at hW); go_simp <;> with_reducible rfl
        simp only [Act.put, List.setIfInBounds_toArray, List.set_cons_zero, List.set_cons_succ]
        refine hTake (i := 3) (v := ?_) rfl (by kernel_rfl) (by kernel_rfl) (by kernel_rfl) (by rfl) ?_ hH ?_
        rotate_left
        · intro W hW; (try dsimp only at hW); go_simp <;> with_reducible rfl
        simp only [Act.put, List.setIfInBounds_toArray, List.set_cons_zero, List.set_cons_succ]
        refine hTake (i := 4) (v := ?_) rfl (by kernel_rfl) (by kernel_rfl) (by kernel_rfl) (by rfl) ?_ hH ?_
        rotate_left
        · intro W hW; (try dsimp only at hW); go_simp <;> with_reducible rfl
        simp only [Act.put, List.setIfInBounds_toArray, List.set_cons_zero, List.set_cons_succ]
        refine hTake (i := 5) (v := ?_) rfl (by kernel_rfl) (by kernel_rfl) (by kernel_rfl) (by rfl) ?_ hH ?_
        rotate_left
        · intro W hW; (try dsimp only at hW); go_simp <;> with_reducible rfl
        simp only [Act.put, List.setIfInBounds_toArray, List.set_cons_zero, List.set_cons_succ]
        refine hTake (i := 6) (v := ?_) rfl (by kernel_rfl) (by kernel_rfl) (by kernel_rfl) (by rfl) ?_ hH ?_
        rotate_left
        · intro W hW; (try dsimp only at hW); go_simp <;> with_reducible rfl
        simp only [Act.put, List.setIfInBounds_toArray, List.set_cons_zero, List.set_cons_succ]
        refine hTake (i := 7) (v := ?_) rfl (by kernel_rfl) (by kernel_rfl) (by kernel_rfl) (by rfl) ?_ hH ?_
        rotate_left
        · intro W hW; (try dsimp only at hW); go_simp <;> with_reducible rfl
        simp only [Act.put, List.setIfInBounds_toArray, List.set_cons_zero, List.set_cons_succ]
        refine hTake (i := 8) (v := ?_) rfl (by kernel_rfl) (by kernel_rfl) (by kernel_rfl) (by rfl) ?_ hH ?_
        rotate_left
        · intro W hW; (try dsimp only at hW); go_simp <;> with_reducible rfl
        simp only [Act.put, List.setIfInBounds_toArray, List.set_cons_zero, List.set_cons_succ]
        refine hTake (i := 9) (v := ?_) rfl (by kernel_rfl) (by kernel_rfl) (by kernel_rfl) (by rfl) ?_ hH ?_
        rotate_left
        · intro W hW; (try dsimp only at hW); go_simp <;> with_reducible rfl
        simp only [Act.put, List.setIfInBounds_toArray, List.set_cons_zero, List.set_cons_succ]
        refine hTake (i := 10) (v := ?_) rfl (by kernel_rfl) (by kernel_rfl) (by kernel_rfl) (by rfl) ?_ hH ?_
        rotate_left
        · intro W hW; (try dsimp only at hW); go_simp <;> with_reducible rfl
        simp only [Act.put, List.setIfInBounds_toArray, List.set_cons_zero, List.set_cons_succ]
        refine hTake (i := 11) (v := ?_) rfl (by kernel_rfl) (by kernel_rfl) (by kernel_rfl) (by rfl) ?_ hH ?_
        rotate_left
        · intro W hW; (try dsimp only at hW); go_simp <;> with_reducible rfl
        simp only [Act.put, List.setIfInBounds_toArray, List.set_cons_zero, List.set_cons_succ]
        refine wpAnyH_ready (rs := [12]) (by kernel_rfl) (by simp) ?_
        refine AllReadyH.cons rfl (fun K hK => ?_) AllReadyH.nil
        go_simp
        refine (IC _).mono ?_
        rintro e w9 ⟨rfl, b9⟩
        refine hK.out _ _ ?_ (fun hH => ?_)
        · exact ⟨keep_cell b9 hH.1, keep_cell b9 hH.2.1, keep_cell b9 hH.2.2.1, keep_cell b9 hH.2.2.2.1, hH.2.2.2.2.trans (b9.mono hH.2.2.2.2.size)⟩
        clear hK K
        refine hTake (i := 13) (v := ?_) rfl (by kernel_rfl) (by kernel_rfl) (by kernel_rfl) (by rfl) ?_ hH ?_
        rotate_left
        · intro W hW; (try dsimp only at hW); go_simp <;> with_reducible rfl
        simp only [Act.put, List.setIfInBounds_toArray, List.set_cons_zero, List.set_cons_succ]
        refine hTake (i := 14) (v := ?_) rfl (by kernel_rfl) (by kernel_rfl) (by kernel_rfl) (by rfl) ?_ hH ?_
        rotate_left
        · intro W hW; (try dsimp only at hW); go_simp <;> with_reducible rfl
        simp only [Act.put, List.setIfInBounds_toArray, List.set_cons_zero, List.set_cons_succ]
        refine wpAnyH_done (by kernel_rfl) ?_ _
        refine NoPanic.normal ?_
        have hB2 := hH.2.2.2.2
        clear hH
        go_wp2
        go_ret
        exact ⟨ret_int HS.out.symm, hB2⟩
      · rw [hl] at IC
        have HX := hid (HFN.out hr hl)
        replace HN := hid (HN.out HX.out)
        clear HS HFM HFN hr hm ht hl
        go_wp2_with fail
        refine (IM _).mono ?_
        rintro e w' ⟨rfl, rfl⟩
        go_wp2_with fail
        refine (IT _).mono ?_
        rintro e w' ⟨rfl, rfl⟩
        clear IM IT
        go_wp2_with fail
        refine wp_region_noPanic ?_
        refine wp_region_held_drew (S := fun W' => W'.cell? ⟨g, off + i * 2, none⟩ = some (.int .i64 pt) ∧ W'.cell? ⟨g, off + i * 2 + 1, none⟩ = some (.int .i64 pm) ∧ W'.cell? ⟨g, off + k * 2, none⟩ = some (.int .i64 rt) ∧ W'.cell? ⟨g, off + k * 2 + 1, none⟩ = some (.int .i64 rm) ∧ Below w.heap.size w W') (by kernel_rfl) (⟨u0, u1, q0, q1, hB.drew⟩) (fun hH => ?_)
        refine hTake (i := 0) (v := ?_) rfl (by kernel_rfl) (by kernel_rfl) (by kernel_rfl) (by rfl) ?_ hH ?_
        rotate_left
        · intro W hW; (try dsimp only at hW); go_simp <;> with_reducible rfl
        simp only [Act.put, List.setIfInBounds_toArray, List.set_cons_zero, List.set_cons_succ]
        refine hTake (i := 1) (v := ?_) rfl (by kernel_rfl) (by kernel_rfl) (by kernel_rfl) (by rfl) ?_ hH ?_
        rotate_left
        · intro W hW; (try dsimp only at hW); go_simp <;> with_reducible rfl
        simp only [Act.put, List.setIfInBounds_toArray, List.set_cons_zero, List.set_cons_succ]
        refine hTake (i := 2) (v := ?_) rfl (by kernel_rfl) (by kernel_rfl) (by kernel_rfl) (by rfl) ?_ hH ?_
        rotate_left
        · intro W hW; (try dsimp only at hW); go_simp <;> with_reducible rfl
        simp only [Act.put, List.setIfInBounds_toArray, List.set_cons_zero, List.set_cons_succ]
        refine hTake (i := 3) (v := ?_) rfl (by kernel_rfl) (by kernel_rfl) (by kernel_rfl) (by rfl) ?_ hH ?_
        rotate_left
        · intro W hW; (try dsimp only at hW); go_simp <;> with_reducible rfl
        simp only [Act.put, List.setIfInBounds_toArray, List.set_cons_zero, List.set_cons_succ]
        refine hTake (i := 4) (v := ?_) rfl (by kernel_rfl) (by kernel_rfl) (by kernel_rfl) (by rfl) ?_ hH ?_
        rotate_left
        · intro W hW; (try dsimp only at hW); go_simp <;> with_reducible rfl
        simp only [Act.put, List.setIfInBounds_toArray, List.set_cons_zero, List.set_cons_succ]
        refine hTake (i := 5) (v := ?_) rfl (by kernel_rfl) (by kernel_rfl) (by kernel_rfl) (by rfl) ?_ hH ?_
        rotate_left
        · intro W hW; (try dsimp only at hW); go_simp <;> with_reducible rfl
        simp only [Act.put, List.setIfInBounds_toArray, List.set_cons_zero, List.set_cons_succ]
        refine hTake (i := 6) (v := ?_) rfl (by kernel_rfl) (by kernel_rfl) (by kernel_rfl) (by rfl) ?_ hH ?_
        rotate_left
        · intro W hW; (try dsimp only at hW); go_simp <;> with_reducible rfl
        simp only [Act.put, List.setIfInBounds_toArray, List.set_cons_zero, List.set_cons_succ]
        refine hTake (i := 7) (v := ?_) rfl (by kernel_rfl) (by kernel_rfl) (by kernel_rfl) (by rfl) ?_ hH ?_
        rotate_left
        · intro W hW; (try dsimp only at hW); go_simp <;> with_reducible rfl
        simp only [Act.put, List.setIfInBounds_toArray, List.set_cons_zero, List.set_cons_succ]
        refine hTake (i := 8) (v := ?_) rfl (by kernel_rfl) (by kernel_rfl) (by kernel_rfl) (by rfl) ?_ hH ?_
        rotate_left
        · intro W hW; (try dsimp only at hW); go_simp <;> with_reducible rfl
        simp only [Act.put, List.setIfInBounds_toArray, List.set_cons_zero, List.set_cons_succ]
        refine hTake (i := 9) (v := ?_) rfl (by kernel_rfl) (by kernel_rfl) (by kernel_rfl) (by rfl) ?_ hH ?_
        rotate_left
        · intro W hW; (try dsimp only at hW); go_simp <;> with_reducible rfl
        simp only [Act.put, List.setIfInBounds_toArray, List.set_cons_zero, List.set_cons_succ]
        refine hTake (i := 10) (v := ?_) rfl (by kernel_rfl) (by kernel_rfl) (by kernel_rfl) (by rfl) ?_ hH ?_
        rotate_left
        · intro W hW; (try dsimp only at hW); go_simp <;> with_reducible rfl
        simp only [Act.put, List.setIfInBounds_toArray, List.set_cons_zero, List.set_cons_succ]
        refine hTake (i := 11) (v := ?_) rfl (by kernel_rfl) (by kernel_rfl) (by kernel_rfl) (by rfl) ?_ hH ?_
        rotate_left
        · intro W hW; (try dsimp only at hW); go_simp <;> with_reducible rfl
        simp only [Act.put, List.setIfInBounds_toArray, List.set_cons_zero, List.set_cons_succ]
        refine wpAnyH_ready (rs := [12]) (by kernel_rfl) (by simp) ?_
        refine AllReadyH.cons rfl (fun K hK => ?_) AllReadyH.nil
        go_simp
        refine (IC _).mono ?_
        rintro e w9 ⟨rfl, b9⟩
        refine hK.out _ _ ?_ (fun hH => ?_)
        · exact ⟨keep_cell b9 hH.1, keep_cell b9 hH.2.1, keep_cell b9 hH.2.2.1, keep_cell b9 hH.2.2.2.1, hH.2.2.2.2.trans (b9.mono hH.2.2.2.2.size)⟩
        clear hK K
        refine hTake (i := 13) (v := ?_) rfl (by kernel_rfl) (by kernel_rfl) (by kernel_rfl) (by rfl) ?_ hH ?_
        rotate_left
        · intro W hW; (try dsimp only at hW); go_simp <;> with_reducible rfl
        simp only [Act.put, List.setIfInBounds_toArray, List.set_cons_zero, List.set_cons_succ]
        refine hTake (i := 14) (v := ?_) rfl (by kernel_rfl) (by kernel_rfl) (by kernel_rfl) (by rfl) ?_ hH ?_
        rotate_left
        · intro W hW; (try dsimp only at hW); go_simp <;> with_reducible rfl
        simp only [Act.put, List.setIfInBounds_toArray, List.set_cons_zero, List.set_cons_succ]
        refine wpAnyH_done (by kernel_rfl) ?_ _
        refine NoPanic.normal ?_
        have hB2 := hH.2.2.2.2
        clear hH
        go_wp2
        go_roundw
        case rel => exact ⟨k + 1, by omega, by go_num, HN, hB2⟩
        case measure => simp [intOf]; omega
    · obtain rfl : k = n := by omega
      have HZ := hid (HH.out.trans (Ch.ix_end (by have := HL.out; omega)))
      have HT := hid (fun hd => Ch.ix_taken hpl HZ.out hd)
      have HO := hid (fun hd => Ch.ix_fine hpl HZ.out hd)
      clear HH HZ
      generalize wr = wq at *
      go_wp2
      go_loopw [4] (fun i wr => ∃ k' : Nat, k' ≤ k ∧ i = .int .i64 k' ∧ Hid ((Ch.keysOf (ps.take k')).Nodup) ∧ Below w.heap.size w wr) (fun i _ => k - (intOf i).toNat)
      case atStart => exact ⟨0, Nat.zero_le _, rfl, hid (by simp [Ch.keysOf]), hB⟩
      case round =>
        clear hB
        obtain ⟨i, hi, rfl, HD, hB⟩ := hrel
        generalize wr = wp at *
        by_cases hil : i < k
        · have hip : i < ps.length := by have := HL.out; omega
          have HDN := hid (fun hne => Ch.nodup_next hip HD.out hne)
          have HTF := hid (fun j (hj : j < i) he => HT.out (Ch.dup_found hj hip he))
          clear HD
          go_wp2
          go_loopw [5] (fun q wr => ∃ j : Nat, j ≤ i ∧ q = .int .i64 j ∧ Hid (∀ j', j' < j → (ps.getD j' Ch.Hold.zero).m ≠ (ps.getD i Ch.Hold.zero).m) ∧ Below w.heap.size w wr) (fun q _ => i - (intOf q).toNat)
          case atStart => exact ⟨0, Nat.zero_le _, rfl, hid (fun j' hj' => by omega), hB⟩
          case round =>
            clear hB
            obtain ⟨j, hj, rfl, HA, hB⟩ := hrel
            by_cases hjl : j < i
            · replace HTF := hid (HTF.out j hjl)
              have HAN := hid (fun hne => fun j' (hj' : j' < j + 1) => (if he : j' = j then by rw [he]; exact hne else HA.out j' (by omega) : (ps.getD j' Ch.Hold.zero).m ≠ (ps.getD i Ch.Hold.zero).m))
              clear HA
              obtain ⟨g, off, hao, q0, q1⟩ := (h.below hB).hold hil
              obtain ⟨g', off', hao', p0, p1⟩ := (h.below hB).hold (k := j) (by omega)
              subst hao
              cases hao'
              have hbl := lt_of_cell q0
              have hjn : j < k := by omega
              generalize hri : ps.getD i Ch.Hold.zero = r at *
              generalize hrj : ps.getD j Ch.Hold.zero = rj at *
              obtain ⟨rt, rm⟩ := r
              obtain ⟨pt, pm⟩ := rj
              simp only at q0 q1 p0 p1 HTF HAN
              by_cases hm : pm = rm
              · have e1 : (pm == rm) = true := by simpa using hm
                replace HTF := hid (HTF.out hm)
                clear HAN HDN hm hri hrj HO
                go_wp2
                refine wp_region_noPanic ?_
                refine wp_region_held_drew (S := fun W' => W'.cell? ⟨g, off + j * 2 + 1, none⟩ = some (.int .i64 pm) ∧ W'.cell? ⟨g, off + i * 2 + 1, none⟩ = some (.int .i64 rm) ∧ Below w.heap.size w W') (by kernel_rfl) (⟨p1, q1, hB.drew⟩) (fun hH => ?_)
                refine hTake (i := 0) (v := ?_) rfl (by kernel_rfl) (by kernel_rfl) (by kernel_rfl) (by rfl) ?_ hH ?_
                rotate_left
                · intro W hW; (try dsimp only at hW); go_simp <;> with_reducible rfl
                simp only [Act.put, List.setIfInBounds_toArray, List.set_cons_zero, List.set_cons_succ]
                refine hTake (i := 1) (v := ?_) rfl (by kernel_rfl) (by kernel_rfl) (by kernel_rfl) (by rfl) ?_ hH ?_
                rotate_left
                · intro W hW; (try dsimp only at hW); go_simp <;> with_reducible rfl
                simp only [Act.put, List.setIfInBounds_toArray, List.set_cons_zero, List.set_cons_succ]
                refine hTake (i := 2) (v := ?_) rfl (by kernel_rfl) (by kernel_rfl) (by kernel_rfl) (by rfl) ?_ hH ?_
                rotate_left
                · intro W hW; (try dsimp only at hW); go_simp <;> with_reducible rfl
                simp only [Act.put, List.setIfInBounds_toArray, List.set_cons_zero, List.set_cons_succ]
                refine hTake (i := 3) (v := ?_) rfl (by kernel_rfl) (by kernel_rfl) (by kernel_rfl) (by rfl) ?_ hH ?_
                rotate_left
                · intro W hW; (try dsimp only at hW); go_simp <;> with_reducible rfl
                simp only [Act.put, List.setIfInBounds_toArray, List.set_cons_zero, List.set_cons_succ]
                refine hTake (i := 4) (v := ?_) rfl (by kernel_rfl) (by kernel_rfl) (by kernel_rfl) (by rfl) ?_ hH ?_
                rotate_left
                · intro W hW; (try dsimp only at hW); go_simp <;> with_reducible rfl
                simp only [Act.put, List.setIfInBounds_toArray, List.set_cons_zero, List.set_cons_succ]
                refine hTake (i := 5) (v := ?_) rfl (by kernel_rfl) (by kernel_rfl) (by kernel_rfl) (by rfl) ?_ hH ?_
                rotate_left
                · intro W hW; (try dsimp only at hW); go_simp <;> with_reducible rfl
                simp only [Act.put, List.setIfInBounds_toArray, List.set_cons_zero, List.set_cons_succ]
                refine hTake (i := 6) (v := ?_) rfl (by kernel_rfl) (by kernel_rfl) (by kernel_rfl) (by rfl) ?_ hH ?_
                rotate_left
                · intro W hW; (try dsimp only at hW); go_simp <;> with_reducible rfl
                simp only [Act.put, List.setIfInBounds_toArray, List.set_cons_zero, List.set_cons_succ]
                refine hTake (i := 7) (v := ?_) rfl (by kernel_rfl) (by kernel_rfl) (by kernel_rfl) (by rfl) ?_ hH ?_
                rotate_left
                · intro W hW; (try dsimp only at hW); go_simp <;> with_reducible rfl
                simp only [Act.put, List.setIfInBounds_toArray, List.set_cons_zero, List.set_cons_succ]
                refine hTake (i := 8) (v := ?_) rfl (by kernel_rfl) (by kernel_rfl) (by kernel_rfl) (by rfl) ?_ hH ?_
                rotate_left
                · intro W hW; (try dsimp only at hW); go_simp <;> with_reducible rfl
                simp only [Act.put, List.setIfInBounds_toArray, List.set_cons_zero, List.set_cons_succ]
                refine hTake (i := 9) (v := ?_) rfl (by kernel_rfl) (by kernel_rfl) (by kernel_rfl) (by rfl) ?_ hH ?_
                rotate_left
                · intro W hW; (try dsimp only at hW); go_simp <;> with_reducible rfl
                simp only [Act.put, List.setIfInBounds_toArray, List.set_cons_zero, List.set_cons_succ]
                refine hTake (i := 10) (v := ?_) rfl (by kernel_rfl) (by kernel_rfl) (by kernel_rfl) (by rfl) ?_ hH ?_
                rotate_left
                · intro W hW; (try dsimp only at hW); go_simp <;> with_reducible rfl
                simp only [Act.put, List.setIfInBounds_toArray, List.set_cons_zero, List.set_cons_succ]
                refine wpAnyH_done (by kernel_rfl) ?_ _
                refine NoPanic.normal ?_
                have hB2 := hH.2.2
                clear hH
                go_wp2
                go_ret
                exact ⟨ret_int HTF.out.symm, hB2⟩
              · have e1 : (pm == rm) = false := by simpa using hm
                replace HAN := hid (HAN.out hm)
                clear HTF HDN hm hri hrj HO
                go_wp2
                refine wp_region_noPanic ?_
                refine wp_region_held_drew (S := fun W' => W'.cell? ⟨g, off + j * 2 + 1, none⟩ = some (.int .i64 pm) ∧ W'.cell? ⟨g, off + i * 2 + 1, none⟩ = some (.int .i64 rm) ∧ Below w.heap.size w W') (by kernel_rfl) (⟨p1, q1, hB.drew⟩) (fun hH => ?_)
                refine hTake (i := 0) (v := ?_) rfl (by kernel_rfl) (by kernel_rfl) (by kernel_rfl) (by rfl) ?_ hH ?_
                rotate_left
                · intro W hW; (try dsimp only at hW); go_simp <;> with_reducible rfl
                simp only [Act.put, List.setIfInBounds_toArray, List.set_cons_zero, List.set_cons_succ]
                refine hTake (i := 1) (v := ?_) rfl (by kernel_rfl) (by kernel_rfl) (by kernel_rfl) (by rfl) ?_ hH ?_
                rotate_left
                · intro W hW; (try dsimp only at hW); go_simp <;> with_reducible rfl
                simp only [Act.put, List.setIfInBounds_toArray, List.set_cons_zero, List.set_cons_succ]
                refine hTake (i := 2) (v := ?_) rfl (by kernel_rfl) (by kernel_rfl) (by kernel_rfl) (by rfl) ?_ hH ?_
                rotate_left
                · intro W hW; (try dsimp only at hW); go_simp <;> with_reducible rfl
                simp only [Act.put, List.setIfInBounds_toArray, List.set_cons_zero, List.set_cons_succ]
                refine hTake (i := 3) (v := ?_) rfl (by kernel_rfl) (by kernel_rfl) (by kernel_rfl) (by rfl) ?_ hH ?_
                rotate_left
                · intro W hW; (try dsimp only at hW); go_simp <;> with_reducible rfl
                simp only [Act.put, List.setIfInBounds_toArray, List.set_cons_zero, List.set_cons_succ]
                refine hTake (i := 4) (v := ?_) rfl (by kernel_rfl) (by kernel_rfl) (by kernel_rfl) (by rfl) ?_ hH ?_
                rotate_left
                · intro W hW; (try dsimp only at hW); go_simp <;> with_reducible rfl
                simp only [Act.put, List.setIfInBounds_toArray, List.set_cons_zero, List.set_cons_succ]
                refine hTake (i := 5) (v := ?_) rfl (by kernel_rfl) (by kernel_rfl) (by kernel_rfl) (by rfl) ?_ hH ?_
                rotate_left
                · intro W hW; (try dsimp only at hW); go_simp <;> with_reducible rfl
                simp only [Act.put, List.setIfInBounds_toArray, List.set_cons_zero, List.set_cons_succ]
                refine hTake (i := 6) (v := ?_) rfl (by kernel_rfl) (by kernel_rfl) (by kernel_rfl) (by rfl) ?_ hH ?_
                rotate_left
                · intro W hW; (try dsimp only at hW); go_simp <;> with_reducible rfl
                simp only [Act.put, List.setIfInBounds_toArray, List.set_cons_zero, List.set_cons_succ]
                refine hTake (i := 7) (v := ?_) rfl (by kernel_rfl) (by kernel_rfl) (by kernel_rfl) (by rfl) ?_ hH ?_
                rotate_left
                · intro W hW; (try dsimp only at hW); go_simp <;> with_reducible rfl
                simp only [Act.put, List.setIfInBounds_toArray, List.set_cons_zero, List.set_cons_succ]
                refine hTake (i := 8) (v := ?_) rfl (by kernel_rfl) (by kernel_rfl) (by kernel_rfl) (by rfl) ?_ hH ?_
                rotate_left
                · intro W hW; (try dsimp only at hW); go_simp <;> with_reducible rfl
                simp only [Act.put, List.setIfInBounds_toArray, List.set_cons_zero, List.set_cons_succ]
                refine hTake (i := 9) (v := ?_) rfl (by kernel_rfl) (by kernel_rfl) (by kernel_rfl) (by rfl) ?_ hH ?_
                rotate_left
                · intro W hW; (try dsimp only at hW); go_simp <;> with_reducible rfl
                simp only [Act.put, List.setIfInBounds_toArray, List.set_cons_zero, List.set_cons_succ]
                refine hTake (i := 10) (v := ?_) rfl (by kernel_rfl) (by kernel_rfl) (by kernel_rfl) (by rfl) ?_ hH ?_
                rotate_left
                · intro W hW; (try dsimp only at hW); go_simp <;> with_reducible rfl
                simp only [Act.put, List.setIfInBounds_toArray, List.set_cons_zero, List.set_cons_succ]
                refine wpAnyH_done (by kernel_rfl) ?_ _
                refine NoPanic.normal ?_
                have hB2 := hH.2.2
                clear hH
                go_wp2
                go_roundw
                case rel => exact ⟨j + 1, by omega, by go_num, HAN, hB2⟩
                case measure => simp [intOf]; omega
            · obtain rfl : j = i := by omega
              replace HDN := hid (HDN.out HA.out)
              clear HA HTF
              go_wp2
              go_roundw
              case rel => exact ⟨j + 1, by omega, by go_num, HDN, hB⟩
              case measure => simp [intOf]; omega
        · obtain rfl : i = k := by omega
          have HX := hid (HO.out (Ch.nodup_all (by have := HL.out; omega) HD.out))
          go_wp2
          go_ret
          exact ⟨ret_int HX.out.symm, hB⟩
end Go.Proofs.Ythfanfnbjldddaa
