
/- LeavesFault of the model and of the program. -/
import Derived.Test.YtjjbjdjkcckgmaaLvE
namespace Go.Proofs.Ytjjbjdjkcckgmaa
open Go.RowKit

set_option maxHeartbeats 1600000 in
theorem implLeaves_any (a : Option Addr) (n cap : Nat) (ls : List (List Ch.Row)) (w : World) (h : LvAt w a n ls) (hs : Ch.lvSize ls ≤ 1048576) :
    Calls Try.prog 32 #[.slice a n cap] w fun e w' => e = .returned (.int .i64 (Ch.leavesFault ls)) ∧ Below w.heap.size w w' := by
  have HL := h.len
  have hn : n ≤ 1048576 := by unfold Ch.lvSize at hs; have := HL.out; omega
  by_cases h6 : 60 < n
  · go_enter Try.func32, Try.ntmps32
    go_wp2
    go_ret
    exact ⟨ret_int (by rw [Ch.leavesFault, if_pos (by have := HL.out; omega)]), Below.refl _ _⟩
  have HP : Hid (Ch.leavesFault ls = Ch.lvAt ls 0) := by
    show _ = _
    rw [Ch.leavesFault, if_neg (by have := HL.out; omega)]; rfl
  have hd6 : decide ((60 : Int) < (n : Int)) = false := by simp; omega
  go_enter Try.func32, Try.ntmps32
  go_wp2
  go_loopw [11] (fun i wr => ∃ k : Nat, k ≤ n ∧ i = .int .i64 k ∧ Hid (∀ j, j < k → (ls.getD j []).length ≠ 0) ∧ Hid (Ch.leavesFault ls = Ch.lvAt ls k) ∧ Below w.heap.size w wr) (fun i _ => n - (intOf i).toNat)
  case atStart => exact ⟨0, Nat.zero_le _, rfl, fun j hj => absurd hj (by omega), HP.out, Below.refl _ _⟩
  case round =>
    clear HP
    obtain ⟨k, hk, rfl, HE, HR, hB⟩ := hrel
    by_cases hlt : k < n
    · have hkl : k < ls.length := by have := HL.out; omega
      have HS := hid (Ch.lv_leaf hs k)
      have H0 : Hid ((ls.getD k []).length = 0 → Ch.leavesFault ls = 1) := fun h0 => HR.out.trans (Ch.lvAt_empty ls k hkl h0)
      have HF : Hid ((ls.getD k []).length ≠ 0 → (Ch.pageFault (ls.getD k []) != 0) = true → Ch.leavesFault ls = Ch.pageFault (ls.getD k [])) := fun h0 hf => HR.out.trans (Ch.lvAt_page ls k hkl h0 hf)
      have HM : Hid ((ls.getD k []).length ≠ 0 → (Ch.pageFault (ls.getD k []) != 0) = false → Ch.firstK (ls.getD k []) ≤ Ch.lastAt ls k → Ch.leavesFault ls = 1) := fun h0 hf hl => HR.out.trans (Ch.lvAt_low ls k hkl h0 hf hl)
      have HN : Hid ((ls.getD k []).length ≠ 0 → (Ch.pageFault (ls.getD k []) != 0) = false → ¬ Ch.firstK (ls.getD k []) ≤ Ch.lastAt ls k → Ch.leavesFault ls = Ch.lvAt ls (k + 1)) := fun h0 hf hl => HR.out.trans (Ch.lvAt_on ls k hkl h0 hf hl)
      have HE' : Hid ((ls.getD k []).length ≠ 0 → ∀ j, j < k + 1 → (ls.getD j []).length ≠ 0) := by
        intro h0 j hj
        by_cases hjk : j = k
        · rw [hjk]; exact h0
        · exact HE.out j (by omega)
      obtain ⟨b, off, ai, ni, ci, rfl, hc, hr, hni⟩ := (h.below hB).leaf hlt
      have hbl := lt_of_cell hc
      have HRl := hr.rlen
      have hni' : ni ≤ 1048576 := by have := HS.out; have := HRl.out; omega
      cases ni with
      | zero =>
        go_wp2
        go_ret
        exact ⟨ret_int (H0.out HRl.out.symm).symm, hB.alloc hB.size _⟩
      | succ m =>
        have hl0 : (ls.getD k []).length ≠ 0 := by have := HRl.out; omega
        have HFK : Hid (Ch.firstK (ls.getD k []) = ((ls.getD k []).getD 0 Ch.Row.zero).k) := rfl
        obtain ⟨b1, o1, rfl, q0, _, _⟩ := hr.row (k := 0) (by omega)
        have hbl1 := lt_of_cell q0
        cases hf : (Ch.pageFault (ls.getD k []) != 0)
        · cases k with
          | zero =>
            have HK := hid (Ch.firstK_ok (l := ls.getD 0 []) (by simpa using hf))
            have HN1 : Hid (Ch.leavesFault ls = Ch.lvAt ls 1) := HN.out hl0 hf (by have := HK.out; show ¬ _ ≤ (-1 : Int); omega)
            have HE1 := HE'.out hl0
            generalize ls.getD 0 [] = l at *
            simp only [Nat.add_zero] at hc
            go_wp2_with fail
            refine (implPage_any _ _ _ l _ (hr.below ((Below.refl _ _).alloc (Nat.le_refl _) _)) (by omega)).mono ?_
            rintro e w1 ⟨rfl, b1w⟩
            have hB1 := hB.trans ((below_box b1w).mono hB.size)
            have x0 := box_cell b1w 0
            simp only [List.getElem?_toArray, List.getElem?_cons_zero] at x0
            generalize Ch.pageFault l = pf at *
            have hd : decide ((0 : Int) < ((0 : Nat) : Int)) = false := by simp
            clear H0 HF HM HN HE' HFK HK hc q0
            go_wp2
            go_quiet (fail)
            go_wp2
            go_roundw
            case rel => exact ⟨1, by omega, by go_num, HE1, HN1, below_drewN hB1 _⟩
            case measure => simp [intOf]; omega
          | succ j =>
            obtain ⟨b', off', ap, np, cp, hbo, p0, rp, _⟩ := (h.below hB).leaf (show j < n by omega)
            simp only [Option.some.injEq, Addr.mk.injEq, and_true] at hbo
            obtain ⟨rfl, rfl⟩ := hbo
            have HRp := rp.rlen
            have HSp := hid (Ch.lv_leaf hs j)
            have hnp : np ≤ 1099511627776 := by have := HSp.out; have := HRp.out; omega
            have hnp0 : np ≠ 0 := by have := HE.out j (by omega); have := HRp.out; omega
            have HLA : Hid (Ch.lastAt ls (j + 1) = Ch.lastK (ls.getD j [])) := rfl
            generalize Ch.lastAt ls (j + 1) = q at *
            generalize hlp : ls.getD j [] = lp at *
            generalize ls.getD (j + 1) [] = l at *
            generalize (l.getD 0 Ch.Row.zero).k = fk at *
            have hd : decide ((0 : Int) < ((j + 1 : Nat) : Int)) = true := by simp
            have hwj : IntKind.i64.wrap (j : Int) = (j : Int) := IntWalk.i64_in _ ⟨by omega, by omega⟩
            have hj0 : (0 : Int) ≤ (j : Int) := by omega
            have hjn : (j : Int) < (n : Int) := by omega
            simp only [Nat.zero_mul, Nat.add_zero] at q0
            go_wp2_with fail
            refine (implPage_any _ _ _ l _ (hr.below ((Below.refl _ _).alloc (Nat.le_refl _) _)) (by omega)).mono ?_
            rintro e w1 ⟨rfl, b1w⟩
            have hB1 := hB.trans ((below_box b1w).mono hB.size)
            have x0 := box_cell b1w 0
            simp only [List.getElem?_toArray, List.getElem?_cons_zero] at x0
            replace q0 := keep_cell (below_box b1w) q0
            replace p0 := keep_cell (below_box b1w) p0
            replace rp := rp.below (below_box b1w)
            generalize Ch.pageFault l = pf at *
            clear hc hr b1w
            go_wp2
            by_cases hle : fk ≤ Ch.lastK lp
            · have hd2 : decide (fk ≤ Ch.lastK lp) = true := by simpa using hle
              refine wp_region_noPanic ?_
              refine wp_region_held_drew (S := fun W' => W'.cell? ⟨wr.heap.size, 0, none⟩ = some (.slice (some ⟨b1, o1, none⟩) (m + 1) ci) ∧ W'.cell? ⟨b1, o1, none⟩ = some (.int .i64 fk) ∧ W'.cell? ⟨b, off + j, none⟩ = some (.slice ap np cp) ∧ CellsAt W' ap (np * 3) (rcells lp) ∧ Below w.heap.size w W') (by kernel_rfl) (⟨x0, q0, p0, rp, hB1.drew⟩) (fun hH => ?_)
              refine hTake (i := 0) (v := ?_) rfl (by kernel_rfl) (by kernel_rfl) (by kernel_rfl) (by rfl) ?_ hH ?_
              rotate_left
              · intro W hW; (try dsimp only at hW); go_simp <;> with_reducible rfl
              simp only [Act.put, List.setIfInBounds_toArray, List.set_cons_zero, List.set_cons_succ]
              refine hTake (i := 1) (v := ?_) rfl (by kernel_rfl) (by kernel_rfl) (by kernel_rfl) (by rfl) ?_ hH ?_
              rotate_left
              · intro W hW; (try dsimp only at hW); go_simp <;> with_reducible rfl
              simp only [Act.put, List.setIfInBounds_toArray, List.set_cons_zero, List.set_cons_succ]
              refine hTake (i := 2) (v := ?_) rfl (by kernel_rfl) (by kernel_rfl) (by kernel_rfl) (by rfl) ?_ hH ?_
              rotate_left
              · intro W hW; (try dsimp only at hW); go_simp <;> with_reducible rfl
              simp only [Act.put, List.setIfInBounds_toArray, List.set_cons_zero, List.set_cons_succ]
              refine hTake (i := 3) (v := ?_) rfl (by kernel_rfl) (by kernel_rfl) (by kernel_rfl) (by rfl) ?_ hH ?_
              rotate_left
              · intro W hW; (try dsimp only at hW); go_simp <;> with_reducible rfl
              simp only [Act.put, List.setIfInBounds_toArray, List.set_cons_zero, List.set_cons_succ]
              refine hTake (i := 4) (v := ?_) rfl (by kernel_rfl) (by kernel_rfl) (by kernel_rfl) (by rfl) ?_ hH ?_
              rotate_left
              · intro W hW; (try dsimp only at hW); go_simp <;> with_reducible rfl
              simp only [Act.put, List.setIfInBounds_toArray, List.set_cons_zero, List.set_cons_succ]
              refine hTake (i := 5) (v := ?_) rfl (by kernel_rfl) (by kernel_rfl) (by kernel_rfl) (by rfl) ?_ hH ?_
              rotate_left
              · intro W hW; (try dsimp only at hW); go_simp <;> with_reducible rfl
              simp only [Act.put, List.setIfInBounds_toArray, List.set_cons_zero, List.set_cons_succ]
              refine hTake (i := 6) (v := ?_) rfl (by kernel_rfl) (by kernel_rfl) (by kernel_rfl) (by rfl) ?_ hH ?_
              rotate_left
              · intro W hW; (try dsimp only at hW); go_simp <;> with_reducible rfl
              simp only [Act.put, List.setIfInBounds_toArray, List.set_cons_zero, List.set_cons_succ]
              refine hTake (i := 7) (v := ?_) rfl (by kernel_rfl) (by kernel_rfl) (by kernel_rfl) (by rfl) ?_ hH ?_
              rotate_left
              · intro W hW; (try dsimp only at hW); go_simp <;> with_reducible rfl
              simp only [Act.put, List.setIfInBounds_toArray, List.set_cons_zero, List.set_cons_succ]
              refine hTake (i := 8) (v := ?_) rfl (by kernel_rfl) (by kernel_rfl) (by kernel_rfl) (by rfl) ?_ hH ?_
              rotate_left
              · intro W hW; (try dsimp only at hW); go_simp <;> with_reducible rfl
              simp only [Act.put, List.setIfInBounds_toArray, List.set_cons_zero, List.set_cons_succ]
              refine hTake (i := 9) (v := ?_) rfl (by kernel_rfl) (by kernel_rfl) (by kernel_rfl) (by rfl) ?_ hH ?_
              rotate_left
              · intro W hW; (try dsimp only at hW); go_simp <;> with_reducible rfl
              simp only [Act.put, List.setIfInBounds_toArray, List.set_cons_zero, List.set_cons_succ]
              refine hTake (i := 10) (v := ?_) rfl (by kernel_rfl) (by kernel_rfl) (by kernel_rfl) (by rfl) ?_ hH ?_
              rotate_left
              · intro W hW; (try dsimp only at hW); go_simp <;> with_reducible rfl
              simp only [Act.put, List.setIfInBounds_toArray, List.set_cons_zero, List.set_cons_succ]
              refine hTake (i := 11) (v := ?_) rfl (by kernel_rfl) (by kernel_rfl) (by kernel_rfl) (by rfl) ?_ hH ?_
              rotate_left
              · intro W hW; (try dsimp only at hW); go_simp <;> with_reducible rfl
              simp only [Act.put, List.setIfInBounds_toArray, List.set_cons_zero, List.set_cons_succ]
              refine hTake (i := 12) (v := ?_) rfl (by kernel_rfl) (by kernel_rfl) (by kernel_rfl) (by rfl) ?_ hH ?_
              rotate_left
              · intro W hW; (try dsimp only at hW); go_simp <;> with_reducible rfl
              simp only [Act.put, List.setIfInBounds_toArray, List.set_cons_zero, List.set_cons_succ]
              refine wpAnyH_ready (rs := [13]) (by kernel_rfl) (by simp) ?_
              refine AllReadyH.cons rfl (fun K hK => ?_) AllReadyH.nil
              go_simp
              refine (lastKey_any ap np cp lp _ hH.2.2.2.1 hnp0 hnp).mono ?_
              rintro e w2 ⟨rfl, b2⟩
              go_wp2_with fail
              refine hK.out _ _ ?_ (fun hH => ?_)
              · exact ⟨keep_cell b2 hH.1, keep_cell b2 hH.2.1, keep_cell b2 hH.2.2.1, hH.2.2.2.1.below b2, hH.2.2.2.2.trans (b2.mono hH.2.2.2.2.size)⟩
              clear hK K
              refine hTake (i := 14) (v := ?_) rfl (by kernel_rfl) (by kernel_rfl) (by kernel_rfl) (by rfl) ?_ hH ?_
              rotate_left
              · intro W hW; (try dsimp only at hW); go_simp <;> with_reducible rfl
              simp only [Act.put, List.setIfInBounds_toArray, List.set_cons_zero, List.set_cons_succ]
              refine hTake (i := 15) (v := ?_) rfl (by kernel_rfl) (by kernel_rfl) (by kernel_rfl) (by rfl) ?_ hH ?_
              rotate_left
              · intro W hW; (try dsimp only at hW); go_simp <;> with_reducible rfl
              simp only [Act.put, List.setIfInBounds_toArray, List.set_cons_zero, List.set_cons_succ]
              refine wpAnyH_done (by kernel_rfl) ?_ _
              refine NoPanic.normal ?_
              go_wp2
              go_ret
              exact ⟨ret_int (HM.out hl0 hf (by rw [HFK.out, HLA.out]; exact hle)).symm, hH.2.2.2.2⟩
            · have hd2 : decide (fk ≤ Ch.lastK lp) = false := by simpa using hle
              refine wp_region_noPanic ?_
              refine wp_region_held_drew (S := fun W' => W'.cell? ⟨wr.heap.size, 0, none⟩ = some (.slice (some ⟨b1, o1, none⟩) (m + 1) ci) ∧ W'.cell? ⟨b1, o1, none⟩ = some (.int .i64 fk) ∧ W'.cell? ⟨b, off + j, none⟩ = some (.slice ap np cp) ∧ CellsAt W' ap (np * 3) (rcells lp) ∧ Below w.heap.size w W') (by kernel_rfl) (⟨x0, q0, p0, rp, hB1.drew⟩) (fun hH => ?_)
              refine hTake (i := 0) (v := ?_) rfl (by kernel_rfl) (by kernel_rfl) (by kernel_rfl) (by rfl) ?_ hH ?_
              rotate_left
              · intro W hW; (try dsimp only at hW); go_simp <;> with_reducible rfl
              simp only [Act.put, List.setIfInBounds_toArray, List.set_cons_zero, List.set_cons_succ]
              refine hTake (i := 1) (v := ?_) rfl (by kernel_rfl) (by kernel_rfl) (by kernel_rfl) (by rfl) ?_ hH ?_
              rotate_left
              · intro W hW; (try dsimp only at hW); go_simp <;> with_reducible rfl
              simp only [Act.put, List.setIfInBounds_toArray, List.set_cons_zero, List.set_cons_succ]
              refine hTake (i := 2) (v := ?_) rfl (by kernel_rfl) (by kernel_rfl) (by kernel_rfl) (by rfl) ?_ hH ?_
              rotate_left
              · intro W hW; (try dsimp only at hW); go_simp <;> with_reducible rfl
              simp only [Act.put, List.setIfInBounds_toArray, List.set_cons_zero, List.set_cons_succ]
              refine hTake (i := 3) (v := ?_) rfl (by kernel_rfl) (by kernel_rfl) (by kernel_rfl) (by rfl) ?_ hH ?_
              rotate_left
              · intro W hW; (try dsimp only at hW); go_simp <;> with_reducible rfl
              simp only [Act.put, List.setIfInBounds_toArray, List.set_cons_zero, List.set_cons_succ]
              refine hTake (i := 4) (v := ?_) rfl (by kernel_rfl) (by kernel_rfl) (by kernel_rfl) (by rfl) ?_ hH ?_
              rotate_left
              · intro W hW; (try dsimp only at hW); go_simp <;> with_reducible rfl
              simp only [Act.put, List.setIfInBounds_toArray, List.set_cons_zero, List.set_cons_succ]
              refine hTake (i := 5) (v := ?_) rfl (by kernel_rfl) (by kernel_rfl) (by kernel_rfl) (by rfl) ?_ hH ?_
              rotate_left
              · intro W hW; (try dsimp only at hW); go_simp <;> with_reducible rfl
              simp only [Act.put, List.setIfInBounds_toArray, List.set_cons_zero, List.set_cons_succ]
              refine hTake (i := 6) (v := ?_) rfl (by kernel_rfl) (by kernel_rfl) (by kernel_rfl) (by rfl) ?_ hH ?_
              rotate_left
              · intro W hW; (try dsimp only at hW); go_simp <;> with_reducible rfl
              simp only [Act.put, List.setIfInBounds_toArray, List.set_cons_zero, List.set_cons_succ]
              refine hTake (i := 7) (v := ?_) rfl (by kernel_rfl) (by kernel_rfl) (by kernel_rfl) (by rfl) ?_ hH ?_
              rotate_left
              · intro W hW; (try dsimp only at hW); go_simp <;> with_reducible rfl
              simp only [Act.put, List.setIfInBounds_toArray, List.set_cons_zero, List.set_cons_succ]
              refine hTake (i := 8) (v := ?_) rfl (by kernel_rfl) (by kernel_rfl) (by kernel_rfl) (by rfl) ?_ hH ?_
              rotate_left
              · intro W hW; (try dsimp only at hW); go_simp <;> with_reducible rfl
              simp only [Act.put, List.setIfInBounds_toArray, List.set_cons_zero, List.set_cons_succ]
              refine hTake (i := 9) (v := ?_) rfl (by kernel_rfl) (by kernel_rfl) (by kernel_rfl) (by rfl) ?_ hH ?_
              rotate_left
              · intro W hW; (try dsimp only at hW); go_simp <;> with_reducible rfl
              simp only [Act.put, List.setIfInBounds_toArray, List.set_cons_zero, List.set_cons_succ]
              refine hTake (i := 10) (v := ?_) rfl (by kernel_rfl) (by kernel_rfl) (by kernel_rfl) (by rfl) ?_ hH ?_
              rotate_left
              · intro W hW; (try dsimp only at hW); go_simp <;> with_reducible rfl
              simp only [Act.put, List.setIfInBounds_toArray, List.set_cons_zero, List.set_cons_succ]
              refine hTake (i := 11) (v := ?_) rfl (by kernel_rfl) (by kernel_rfl) (by kernel_rfl) (by rfl) ?_ hH ?_
              rotate_left
              · intro W hW; (try dsimp only at hW); go_simp <;> with_reducible rfl
              simp only [Act.put, List.setIfInBounds_toArray, List.set_cons_zero, List.set_cons_succ]
              refine hTake (i := 12) (v := ?_) rfl (by kernel_rfl) (by kernel_rfl) (by kernel_rfl) (by rfl) ?_ hH ?_
              rotate_left
              · intro W hW; (try dsimp only at hW); go_simp <;> with_reducible rfl
              simp only [Act.put, List.setIfInBounds_toArray, List.set_cons_zero, List.set_cons_succ]
              refine wpAnyH_ready (rs := [13]) (by kernel_rfl) (by simp) ?_
              refine AllReadyH.cons rfl (fun K hK => ?_) AllReadyH.nil
              go_simp
              refine (lastKey_any ap np cp lp _ hH.2.2.2.1 hnp0 hnp).mono ?_
              rintro e w2 ⟨rfl, b2⟩
              go_wp2_with fail
              refine hK.out _ _ ?_ (fun hH => ?_)
              · exact ⟨keep_cell b2 hH.1, keep_cell b2 hH.2.1, keep_cell b2 hH.2.2.1, hH.2.2.2.1.below b2, hH.2.2.2.2.trans (b2.mono hH.2.2.2.2.size)⟩
              clear hK K
              refine hTake (i := 14) (v := ?_) rfl (by kernel_rfl) (by kernel_rfl) (by kernel_rfl) (by rfl) ?_ hH ?_
              rotate_left
              · intro W hW; (try dsimp only at hW); go_simp <;> with_reducible rfl
              simp only [Act.put, List.setIfInBounds_toArray, List.set_cons_zero, List.set_cons_succ]
              refine hTake (i := 15) (v := ?_) rfl (by kernel_rfl) (by kernel_rfl) (by kernel_rfl) (by rfl) ?_ hH ?_
              rotate_left
              · intro W hW; (try dsimp only at hW); go_simp <;> with_reducible rfl
              simp only [Act.put, List.setIfInBounds_toArray, List.set_cons_zero, List.set_cons_succ]
              refine wpAnyH_done (by kernel_rfl) ?_ _
              refine NoPanic.normal ?_
              go_wp2
              go_roundw
              case rel => exact ⟨j + 1 + 1, by omega, by go_num, HE'.out hl0, HN.out hl0 hf (by rw [HFK.out, HLA.out]; exact hle), hH.2.2.2.2⟩
              case measure => simp [intOf]; omega
        · generalize ls.getD k [] = l at *
          go_wp2_with fail
          refine (implPage_any _ _ _ l _ (hr.below ((Below.refl _ _).alloc (Nat.le_refl _) _)) (by omega)).mono ?_
          rintro e w1 ⟨rfl, b1⟩
          have hB1 := hB.trans ((below_box b1).mono hB.size)
          have x0 := box_cell b1 0
          generalize Ch.pageFault l = pf at *
          go_wp2
          go_ret
          exact ⟨ret_int (HF.out hl0 hf).symm, hB1⟩
    · obtain rfl : k = n := by omega
      go_wp2
      go_ret
      exact ⟨ret_int (by rw [HR.out, Ch.lvAt_end _ _ (by have := HL.out; omega)]), hB⟩

end Go.Proofs.Ytjjbjdjkcckgmaa
