
/- IndexFault of the program and of the model. -/
import Derived.Test.YthfanfnbjldddaaPrP
import Derived.Test.YthfanfnbjldddaaPrW
import Derived.Test.YthfanfnbjldddaaLvF
namespace Go.Proofs.Ythfanfnbjldddaa
open Go.RowKit Go.Maps

theorem cfE_lt {x y : Ch.Hold} (h : Ch.ltE x y = true) : cfE x y < 0 := by
  rw [← ltE_of] at h; simpa [ltOf] using h
theorem cfE_ge {x y : Ch.Hold} (h : Ch.ltE x y = false) : 0 ≤ cfE x y := by
  rw [← ltE_of] at h
  have : ¬ cfE x y < 0 := by simpa [ltOf] using h
  omega
theorem cmpP_below (x y : Ch.Hold) (W : World) : Calls Try.prog 85 #[.agg #[.int .i64 x.t, .int .i64 x.m], .agg #[.int .i64 y.t, .int .i64 y.m]] W fun e w' => e = .returned (.int .i64 (cfE x y)) ∧ Below W.heap.size W w' := by
  refine (cmpP_any x y W).mono ?_
  rintro e w' ⟨rfl, q, os, rfl⟩
  refine ⟨rfl, rfl, rfl, rfl, by simp, fun k hk => ?_⟩
  rw [Go.Sort.heap_grow_old _ _ (by simpa [World.drewN] using hk)]
  rfl

set_option linter.unusedSimpArgs false in
set_option maxRecDepth 20000 in
set_option maxHeartbeats 4000000 in
theorem implIx_any (a : Option Addr) (n cap : Nat) (ps : List Ch.Hold) (w : World) (h : CellsAt w a (n * 2) (hcells ps)) (hn : n ≤ 1048576) :
    Calls Try.prog 34 #[.slice a n cap] w fun e w' => e = .returned (.int .i64 (Ch.ixFault ps)) ∧ Below w.heap.size w w' := by
  have HL := h.hlen
  by_cases hbig : 240 < n
  · have HF : Hid (Ch.ixFault ps = 2) := Ch.ix_big (by have := HL.out; omega)
    go_enter Try.func34, Try.ntmps34
    go_wp2
    go_ret
    exact ⟨ret_int HF.out.symm, Below.refl _ _⟩
  have hn4 : n ≤ 240 := by omega
  have hpl : ps.length ≤ 240 := by have := HL.out; omega
  clear hbig
  go_enter Try.func34, Try.ntmps34
  go_wp2
  go_loopw [10] (fun i wr => ∃ k : Nat, k ≤ n ∧ i = .int .i64 k ∧ Hid (Ch.ixRest ps 0 = Ch.ixRest ps k) ∧ Hid (∀ j, j < k → Ch.ixAt ps j = 0) ∧ Below w.heap.size w wr) (fun i _ => n - (intOf i).toNat)
  case atStart => exact ⟨0, Nat.zero_le _, rfl, hid rfl, hid (fun j hj => by omega), Below.refl _ _⟩
  case round =>
    obtain ⟨k, hk, rfl, HH, HA, hB⟩ := hrel
    by_cases hlt : k < n
    · have hkl : k < ps.length := by have := HL.out; omega
      have HS := hid (fun c (he : Ch.ixAt ps k = c) (hc : (c != 0) = true) => Ch.ix_code hpl (HH.out.trans ((Ch.ix_at hkl (by rw [he]; exact hc)).trans he)) hc)
      have HN := hid (fun (he : Ch.ixAt ps k = 0) => HH.out.trans (Ch.ix_on hkl (by rw [he]; rfl)))
      have HAN := hid (fun (he : Ch.ixAt ps k = 0) => (Ch.step_all (p := fun j => Ch.ixAt ps j == 0) (k := k) (fun j hj => by simpa using HA.out j hj) (by simpa using he)))
      have HRG := hid (fun hr => Ch.ixAt_range (ps := ps) (k := k) hr)
      have HFM := hid (fun hr h0 hl => Ch.ixAt_form (ps := ps) (k := k) hr h0 hl)
      have HF0 := hid (fun hr h0 => Ch.ixAt_first (ps := ps) (k := k) hr h0)
      have HFN := hid (fun hr hl => Ch.ixAt_fine (ps := ps) (k := k) hr hl)
      obtain ⟨g, off, hao, q0, q1⟩ := (h.below hB).hold hlt
      have HP := hid (fun (h0 : 0 < k) => (h.below hB).hold (k := k - 1) (by omega))
      have hbl := lt_of_cell q0
      generalize ps.getD (k - 1) Ch.Hold.zero = pr at *
      obtain ⟨pt, pm⟩ := pr
      generalize ps.getD k Ch.Hold.zero = r at *
      obtain ⟨rt, rm⟩ := r
      subst hao
      simp only at q0 q1 HRG HFM HF0 HFN HP
      have hB1 : Below w.heap.size w (wr.alloc (.cells #[.int .i64 rt, .int .i64 rm] 60)) := hB.alloc hB.size _
      have kB : Below wr.heap.size wr (wr.alloc (.cells #[.int .i64 rt, .int .i64 rm] 60)) := (Below.refl _ _).alloc (Nat.le_refl _) _
      obtain ⟨s0, s1, _, _⟩ := row2 (heap_alloc_new wr (.cells #[.int .i64 rt, .int .i64 rm] 60))
      have IM := fun W => isValue_any rt W
      have IT := fun W => isKey_any rm W
      cases hm : Ch.inB rt 0 9999
      · rw [hm] at IM
        replace HS := hid (HS.out 3 (HRG.out (by rw [hm]; rfl)) rfl)
        clear HN HAN HRG HFM HF0 HFN IT HP
        go_wp2_with fail
        refine (IM _).mono ?_
        rintro e w' ⟨rfl, rfl⟩
        go_wp2
        go_ret
        exact ⟨ret_int HS.out.symm, hB1⟩
      rw [hm] at IM
      cases ht : Ch.inB rm 0 99
      · rw [ht] at IT
        replace HS := hid (HS.out 3 (HRG.out (by rw [hm, ht]; rfl)) rfl)
        clear HN HAN HRG HFM HF0 HFN HP
        go_wp2_with fail
        refine (IM _).mono ?_
        rintro e w' ⟨rfl, rfl⟩
        go_wp2_with fail
        refine (IT _).mono ?_
        rintro e w' ⟨rfl, rfl⟩
        go_wp2
        go_ret
        exact ⟨ret_int HS.out.symm, hB1⟩
      rw [ht] at IT
      have hr : (!Ch.inB rt 0 9999 || !Ch.inB rm 0 99) = false := by rw [hm, ht]; rfl
      clear HRG
      by_cases h0 : 0 < k
      rotate_left
      · have hk0 : k = 0 := by omega
        have HX := hid (HF0.out hr hk0)
        replace HN := hid (HN.out HX.out)
        replace HAN := hid (HAN.out (by rw [HX.out]))
        subst hk0
        have hd0 : decide ((0 : Int) < ((0 : Nat) : Int)) = false := by simp
        simp only [Nat.zero_mul, Nat.add_zero] at q0 q1
        clear HS HFM HF0 HFN HP hr hm ht
        go_wp2_with fail
        refine (IM _).mono ?_
        rintro e w' ⟨rfl, rfl⟩
        go_wp2_with fail
        refine (IT _).mono ?_
        rintro e w' ⟨rfl, rfl⟩
        clear IM IT
        go_wp2_with fail
        refine wp_region_noPanic ?_
        refine wp_region_held_drew (S := fun W' => Below w.heap.size w W') (by kernel_rfl) (hB1.drew) (fun hH => ?_)
        refine hTake (i := 0) (v := ?_) rfl (by kernel_rfl) (by kernel_rfl) (by kernel_rfl) (by rfl) ?_ hH ?_
        rotate_left
        · intro W hW; (try dsimp only at hW); go_simp <;> with_reducible rfl
        simp only [Act.put, List.setIfInBounds_toArray, List.set_cons_zero, List.set_cons_succ]
        refine hTake (i := 1) (v := ?_) rfl (by kernel_rfl) (by kernel_rfl) (by kernel_rfl) (by rfl) ?_ hH ?_
        rotate_left
        · intro W hW; (try dsimp only at hW); go_simp <;> with_reducible rfl
        simp only [Act.put, List.setIfInBounds_toArray, List.set_cons_zero, List.set_cons_succ]
        refine hTake (i := 2) (v := ?_) rfl (by kernel_rfl) (by kernel_rfl) (by kernel_rfl) (by rfl) ?_ hH ?_
        rotate_left
        · intro W hW; (try dsimp only at hW); go_simp <;> with_reducible rfl
        simp only [Act.put, List.setIfInBounds_toArray, List.set_cons_zero, List.set_cons_succ]
        refine hSkip (i := 3) rfl (by kernel_rfl) (by kernel_rfl) (by kernel_rfl) (by rfl) hH ?_
        simp only [Act.put, List.setIfInBounds_toArray, List.set_cons_zero, List.set_cons_succ]
        refine hSkip (i := 4) rfl (by kernel_rfl) (by kernel_rfl) (by kernel_rfl) (by rfl) hH ?_
        simp only [Act.put, List.setIfInBounds_toArray, List.set_cons_zero, List.set_cons_succ]
        refine hSkip (i := 5) rfl (by kernel_rfl) (by kernel_rfl) (by kernel_rfl) (by rfl) hH ?_
        simp only [Act.put, List.setIfInBounds_toArray, List.set_cons_zero, List.set_cons_succ]
        refine hSkip (i := 6) rfl (by kernel_rfl) (by kernel_rfl) (by kernel_rfl) (by rfl) hH ?_
        simp only [Act.put, List.setIfInBounds_toArray, List.set_cons_zero, List.set_cons_succ]
        refine hSkip (i := 7) rfl (by kernel_rfl) (by kernel_rfl) (by kernel_rfl) (by rfl) hH ?_
        simp only [Act.put, List.setIfInBounds_toArray, List.set_cons_zero, List.set_cons_succ]
        refine hSkip (i := 8) rfl (by kernel_rfl) (by kernel_rfl) (by kernel_rfl) (by rfl) hH ?_
        simp only [Act.put, List.setIfInBounds_toArray, List.set_cons_zero, List.set_cons_succ]
        refine hSkip (i := 9) rfl (by kernel_rfl) (by kernel_rfl) (by kernel_rfl) (by rfl) hH ?_
        simp only [Act.put, List.setIfInBounds_toArray, List.set_cons_zero, List.set_cons_succ]
        refine hSkip (i := 10) rfl (by kernel_rfl) (by kernel_rfl) (by kernel_rfl) (by rfl) hH ?_
        simp only [Act.put, List.setIfInBounds_toArray, List.set_cons_zero, List.set_cons_succ]
        refine hTake (i := 11) (v := ?_) rfl (by kernel_rfl) (by kernel_rfl) (by kernel_rfl) (by rfl) ?_ hH ?_
        rotate_left
        · intro W hW; (try dsimp only at hW); go_simp <;> with_reducible rfl
        simp only [Act.put, List.setIfInBounds_toArray, List.set_cons_zero, List.set_cons_succ]
        refine wpAnyH_done (by kernel_rfl) ?_ _
        refine NoPanic.normal ?_
        have hB2 := hH
        clear hH
        go_wp2
        go_roundw
        case rel => exact ⟨0 + 1, by omega, by go_num, HN, hid (fun j hj => by simpa using HAN.out j hj), hB2⟩
        case measure => simp [intOf]; omega
      obtain ⟨g', off', hg', u0, u1⟩ := HP.out h0
      cases hg'
      replace u0 := keep_cell kB u0
      replace u1 := keep_cell kB u1
      have IC := fun W => cmpP_below ⟨pt, pm⟩ ⟨rt, rm⟩ W
      simp only at IC
      obtain ⟨i, rfl⟩ : ∃ i, k = i + 1 := ⟨k - 1, by omega⟩
      simp only [Nat.add_sub_cancel] at u0 u1
      have hd0 : (0 : Int) < ((i + 1 : Nat) : Int) := by omega
      have hk1 : i < n := by omega
      have hwi : IntKind.i64.wrap (i : Int) = (i : Int) := IntWalk.i64_in _ ⟨by omega, by omega⟩
      clear HP HF0 kB
      cases hl : Ch.ltE ⟨pt, pm⟩ ⟨rt, rm⟩
      · have hc := cfE_ge hl
        replace HS := hid (HS.out 1 (HFM.out hr h0 hl) rfl)
        clear HN HAN HFM HFN hr hm ht hl
        generalize cfE ⟨pt, pm⟩ ⟨rt, rm⟩ = c at *
        go_wp2_with fail
        refine (IM _).mono ?_
        rintro e w' ⟨rfl, rfl⟩
        go_wp2_with fail
        refine (IT _).mono ?_
        rintro e w' ⟨rfl, rfl⟩
        clear IM IT
        go_wp2_with fail
        refine wp_region_noPanic ?_
        refine wp_region_held_drew (S := fun W' => W'.cell? ⟨g, off + i * 2, none⟩ = some (.int .i64 pt) ∧ W'.cell? ⟨g, off + i * 2 + 1, none⟩ = some (.int .i64 pm) ∧ W'.cell? ⟨wr.heap.size, 0, none⟩ = some (.int .i64 rt) ∧ W'.cell? ⟨wr.heap.size, 1, none⟩ = some (.int .i64 rm) ∧ Below w.heap.size w W') (by kernel_rfl) (⟨u0, u1, s0, s1, hB1.drew⟩) (fun hH => ?_)
        refine hTake (i := 0) (v := ?_) rfl (by kernel_rfl) (by kernel_rfl) (by kernel_rfl) (by rfl) ?_ hH ?_
        rotate_left
        · intro W hW; (try dsimp only at hW); go_simp <;> with_reducible rfl
        simp only [Act.put, List.setIfInBounds_toArray, List.set_cons_zero, List.set_cons_succ]
        refine hTake (i := 1) (v := ?_) rfl (by kernel_rfl) (by kernel_rfl) (by kernel_rfl) (by rfl) ?_ hH ?_
        rotate_left
        · intro W hW; (try dsimp only at hW); go_simp <;> with_reducible rfl
        simp only [Act.put, List.setIfInBounds_toArray, List.set_cons_zero, List.set_cons_succ]
        refine hTake (i := 2) (v := ?_) rfl (by kernel_rfl) (by kernel_rfl) (by kernel_rfl) (by rfl) ?_ hH ?_
        rotate_left
        · intro W hW; (try dsimp only at hW); go_simp <;> with_reducible rfl
        simp only [Act.put, List.setIfInBounds_toArray, List.set_cons_zero, List.set_cons_succ]
        refine hTake (i := 3) (v := ?_) rfl (by kernel_rfl) (by kernel_rfl) (by kernel_rfl) (by rfl) ?_ hH ?_
        rotate_left
        · intro W hW; (try dsimp only at hW); go_simp <;> with_reducible rfl
        simp only [Act.put, List.setIfInBounds_toArray, List.set_cons_zero, List.set_cons_succ]
        refine hTake (i := 4) (v := ?_) rfl (by kernel_rfl) (by kernel_rfl) (by kernel_rfl) (by rfl) ?_ hH ?_
        rotate_left
        · intro W hW; (try dsimp only at hW); go_simp <;> with_reducible rfl
        simp only [Act.put, List.setIfInBounds_toArray, List.set_cons_zero, List.set_cons_succ]
        refine hTake (i := 5) (v := ?_) rfl (by kernel_rfl) (by kernel_rfl) (by kernel_rfl) (by rfl) ?_ hH ?_
        rotate_left
        · intro W hW; (try dsimp only at hW); go_simp <;> with_reducible rfl
        simp only [Act.put, List.setIfInBounds_toArray, List.set_cons_zero, List.set_cons_succ]
        refine hTake (i := 6) (v := ?_) rfl (by kernel_rfl) (by kernel_rfl) (by kernel_rfl) (by rfl) ?_ hH ?_
        rotate_left
        · intro W hW; (try dsimp only at hW); go_simp <;> with_reducible rfl
        simp only [Act.put, List.setIfInBounds_toArray, List.set_cons_zero, List.set_cons_succ]
        refine hTake (i := 7) (v := ?_) rfl (by kernel_rfl) (by kernel_rfl) (by kernel_rfl) (by rfl) ?_ hH ?_
        rotate_left
        · intro W hW; (try dsimp only at hW); go_simp <;> with_reducible rfl
        simp only [Act.put, List.setIfInBounds_toArray, List.set_cons_zero, List.set_cons_succ]
        refine hTake (i := 8) (v := ?_) rfl (by kernel_rfl) (by kernel_rfl) (by kernel_rfl) (by rfl) ?_ hH ?_
        rotate_left
        · intro W hW; (try dsimp only at hW); go_simp <;> with_reducible rfl
        simp only [Act.put, List.setIfInBounds_toArray, List.set_cons_zero, List.set_cons_succ]
        refine wpAnyH_ready (rs := [9]) (by kernel_rfl) (by simp) ?_
        refine AllReadyH.cons rfl (fun K hK => ?_) AllReadyH.nil
        go_simp
        refine (IC _).mono ?_
        rintro e w9 ⟨rfl, b9⟩
        refine hK.out _ _ ?_ (fun hH => ?_)
        · exact ⟨keep_cell b9 hH.1, keep_cell b9 hH.2.1, keep_cell b9 hH.2.2.1, keep_cell b9 hH.2.2.2.1, hH.2.2.2.2.trans (b9.mono hH.2.2.2.2.size)⟩
        clear hK K
        refine hTake (i := 10) (v := ?_) rfl (by kernel_rfl) (by kernel_rfl) (by kernel_rfl) (by rfl) ?_ hH ?_
        rotate_left
        · intro W hW; (try dsimp only at hW); go_simp <;> with_reducible rfl
        simp only [Act.put, List.setIfInBounds_toArray, List.set_cons_zero, List.set_cons_succ]
        refine hTake (i := 11) (v := ?_) rfl (by kernel_rfl) (by kernel_rfl) (by kernel_rfl) (by rfl) ?_ hH ?_
        rotate_left
        · intro W hW; (try dsimp only at hW); go_simp <;> with_reducible rfl
        simp only [Act.put, List.setIfInBounds_toArray, List.set_cons_zero, List.set_cons_succ]
        refine wpAnyH_done (by kernel_rfl) ?_ _
        refine NoPanic.normal ?_
        have hB2 := hH.2.2.2.2
        clear hH
        go_wp2
        go_ret
        exact ⟨ret_int HS.out.symm, hB2⟩
      · have hc := cfE_lt hl
        have HX := hid (HFN.out hr hl)
        replace HN := hid (HN.out HX.out)
        replace HAN := hid (HAN.out (by rw [HX.out]))
        clear HS HFM HFN hr hm ht hl
        generalize cfE ⟨pt, pm⟩ ⟨rt, rm⟩ = c at *
        have hc' : ¬ 0 ≤ c := by omega
        go_wp2_with fail
        refine (IM _).mono ?_
        rintro e w' ⟨rfl, rfl⟩
        go_wp2_with fail
        refine (IT _).mono ?_
        rintro e w' ⟨rfl, rfl⟩
        clear IM IT
        go_wp2_with fail
        refine wp_region_noPanic ?_
        refine wp_region_held_drew (S := fun W' => W'.cell? ⟨g, off + i * 2, none⟩ = some (.int .i64 pt) ∧ W'.cell? ⟨g, off + i * 2 + 1, none⟩ = some (.int .i64 pm) ∧ W'.cell? ⟨wr.heap.size, 0, none⟩ = some (.int .i64 rt) ∧ W'.cell? ⟨wr.heap.size, 1, none⟩ = some (.int .i64 rm) ∧ Below w.heap.size w W') (by kernel_rfl) (⟨u0, u1, s0, s1, hB1.drew⟩) (fun hH => ?_)
        refine hTake (i := 0) (v := ?_) rfl (by kernel_rfl) (by kernel_rfl) (by kernel_rfl) (by rfl) ?_ hH ?_
        rotate_left
        · intro W hW; (try dsimp only at hW); go_simp <;> with_reducible rfl
        simp only [Act.put, List.setIfInBounds_toArray, List.set_cons_zero, List.set_cons_succ]
        refine hTake (i := 1) (v := ?_) rfl (by kernel_rfl) (by kernel_rfl) (by kernel_rfl) (by rfl) ?_ hH ?_
        rotate_left
        · intro W hW; (try dsimp only at hW); go_simp <;> with_reducible rfl
        simp only [Act.put, List.setIfInBounds_toArray, List.set_cons_zero, List.set_cons_succ]
        refine hTake (i := 2) (v := ?_) rfl (by kernel_rfl) (by kernel_rfl) (by kernel_rfl) (by rfl) ?_ hH ?_
        rotate_left
        · intro W hW; (try dsimp only at hW); go_simp <;> with_reducible rfl
        simp only [Act.put, List.setIfInBounds_toArray, List.set_cons_zero, List.set_cons_succ]
        refine hTake (i := 3) (v := ?_) rfl (by kernel_rfl) (by kernel_rfl) (by kernel_rfl) (by rfl) ?_ hH ?_
        rotate_left
        · intro W hW; (try dsimp only at hW); go_simp <;> with_reducible rfl
        simp only [Act.put, List.setIfInBounds_toArray, List.set_cons_zero, List.set_cons_succ]
        refine hTake (i := 4) (v := ?_) rfl (by kernel_rfl) (by kernel_rfl) (by kernel_rfl) (by rfl) ?_ hH ?_
        rotate_left
        · intro W hW; (try dsimp only at hW); go_simp <;> with_reducible rfl
        simp only [Act.put, List.setIfInBounds_toArray, List.set_cons_zero, List.set_cons_succ]
        refine hTake (i := 5) (v := ?_) rfl (by kernel_rfl) (by kernel_rfl) (by kernel_rfl) (by rfl) ?_ hH ?_
        rotate_left
        · intro W hW; (try dsimp only at hW); go_simp <;> with_reducible rfl
        simp only [Act.put, List.setIfInBounds_toArray, List.set_cons_zero, List.set_cons_succ]
        refine hTake (i := 6) (v := ?_) rfl (by kernel_rfl) (by kernel_rfl) (by kernel_rfl) (by rfl) ?_ hH ?_
        rotate_left
        · intro W hW; (try dsimp only at hW); go_simp <;> with_reducible rfl
        simp only [Act.put, List.setIfInBounds_toArray, List.set_cons_zero, List.set_cons_succ]
        refine hTake (i := 7) (v := ?_) rfl (by kernel_rfl) (by kernel_rfl) (by kernel_rfl) (by rfl) ?_ hH ?_
        rotate_left
        · intro W hW; (try dsimp only at hW); go_simp <;> with_reducible rfl
        simp only [Act.put, List.setIfInBounds_toArray, List.set_cons_zero, List.set_cons_succ]
        refine hTake (i := 8) (v := ?_) rfl (by kernel_rfl) (by kernel_rfl) (by kernel_rfl) (by rfl) ?_ hH ?_
        rotate_left
        · intro W hW; (try dsimp only at hW); go_simp <;> with_reducible rfl
        simp only [Act.put, List.setIfInBounds_toArray, List.set_cons_zero, List.set_cons_succ]
        refine wpAnyH_ready (rs := [9]) (by kernel_rfl) (by simp) ?_
        refine AllReadyH.cons rfl (fun K hK => ?_) AllReadyH.nil
        go_simp
        refine (IC _).mono ?_
        rintro e w9 ⟨rfl, b9⟩
        refine hK.out _ _ ?_ (fun hH => ?_)
        · exact ⟨keep_cell b9 hH.1, keep_cell b9 hH.2.1, keep_cell b9 hH.2.2.1, keep_cell b9 hH.2.2.2.1, hH.2.2.2.2.trans (b9.mono hH.2.2.2.2.size)⟩
        clear hK K
        refine hTake (i := 10) (v := ?_) rfl (by kernel_rfl) (by kernel_rfl) (by kernel_rfl) (by rfl) ?_ hH ?_
        rotate_left
        · intro W hW; (try dsimp only at hW); go_simp <;> with_reducible rfl
        simp only [Act.put, List.setIfInBounds_toArray, List.set_cons_zero, List.set_cons_succ]
        refine hTake (i := 11) (v := ?_) rfl (by kernel_rfl) (by kernel_rfl) (by kernel_rfl) (by rfl) ?_ hH ?_
        rotate_left
        · intro W hW; (try dsimp only at hW); go_simp <;> with_reducible rfl
        simp only [Act.put, List.setIfInBounds_toArray, List.set_cons_zero, List.set_cons_succ]
        refine wpAnyH_done (by kernel_rfl) ?_ _
        refine NoPanic.normal ?_
        have hB2 := hH.2.2.2.2
        clear hH
        go_wp2
        go_roundw
        case rel => exact ⟨i + 1 + 1, by omega, by go_num, HN, hid (fun j hj => by simpa using HAN.out j hj), hB2⟩
        case measure => simp [intOf]; omega
    · obtain rfl : k = n := by omega
      have HZ := hid (HH.out.trans (Ch.ix_end (by have := HL.out; omega)))
      have HR : ∀ p ∈ ps, Ch.inB p.m 0 99 = true := fun p hp => by
        obtain ⟨j, hj, rfl⟩ := Ch.mem_getD hp
        exact (Ch.ixAt_zero (HA.out j (by have := HL.out; omega))).2.1
      have BK := byKey_any a k cap ps wr (h.below hB) hn4 HR
      have HTK : Hid (ps.take k = ps) := by have := HL.out; show _ = _; rw [this]; exact List.take_length
      clear HR HA HH
      go_wp2_with fail
      refine BK.mono ?_
      rintro e w2 ⟨D, rfl, own, hP, b2⟩
      have hB2 := hB.trans (b2.mono hB.size)
      by_cases hd : (Ch.keysOf ps).Nodup
      · have hsz := hP.one (by rw [HTK.out]; exact hd)
        have HF := hid (Ch.ix_fine hpl HZ.out (by simpa [Ch.ixDup] using hd))
        clear hP hd
        go_wp2_with (at_len; refine wpList_len_own _ rfl _ 118 rfl 2 60 Try.underlying118 plElem wr.heap.size k D rfl own ?_; rw [hsz])
        go_ret
        exact ⟨ret_int HF.out.symm, hB2⟩
      · have hsz := hP.two (by rw [HTK.out]; exact hd)
        have HF := hid (Ch.ix_taken hpl HZ.out (Ch.dup_of hd))
        clear hP hd
        generalize hms : Maps.size D = s at *
        go_wp2_with (at_len; refine wpList_len_own _ rfl _ 118 rfl 2 60 Try.underlying118 plElem wr.heap.size k D rfl own ?_; rw [hms])
        go_ret
        exact ⟨ret_int HF.out.symm, hB2⟩
end Go.Proofs.Ythfanfnbjldddaa
