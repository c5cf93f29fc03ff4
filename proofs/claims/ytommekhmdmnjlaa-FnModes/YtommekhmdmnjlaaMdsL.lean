/- The law FnModes. -/
import Derived.Test.YtommekhmdmnjlaaMdsW
namespace Go.Proofs.Ytommekhmdmnjlaa
open Go.RowKit

set_option linter.unusedSimpArgs false in
set_option maxHeartbeats 4000000 in
/-- Behind the draw, where one is no mode. -/
theorem lawModes_any (a : Option Addr) (n cap : Nat) (zs : List Int) (w : World) (h : CellsAt w a n (bts zs)) (hb : IsB zs) :
    Calls Try.prog 4 #[.slice a n cap] w fun e w' => e = .returned (.bool true) ∧ Below w.heap.size w w' := by
  by_cases hbig : 1048576 < n
  · have hd : decide ((1048576 : Int) < (n : Int)) = true := by simp; omega
    go_enter Try.func4, Try.ntmps4
    go_wp2_with fail
    refine (big_any a n cap _).mono ?_
    rintro e w0 ⟨rfl, hw0⟩
    replace hw0 := hw0.symm
    subst hw0
    rw [hd]
    go_wp2
    go_ret
    exact ⟨rfl, Below.refl _ _⟩
  have hn : n ≤ 1048576 := by omega
  have hd : decide ((1048576 : Int) < (n : Int)) = false := by simp; omega
  have DJ := drawJoin_any a n cap zs w h hb hn
  clear hbig
  go_enter Try.func4, Try.ntmps4
  go_wp2_with fail
  refine (big_any a n cap _).mono ?_
  rintro e w0 ⟨rfl, hw0⟩
  replace hw0 := hw0.symm
  subst hw0
  rw [hd]
  go_wp2_with fail
  refine DJ.mono ?_
  rintro e w1 ⟨x, y, rfl, b1⟩
  clear DJ hd hn h hb
  cases hxy : (Ch.isM x && Ch.isM y)
  · have HJ : ∀ W : World, Calls Try.prog 19 #[.int .i64 x, .int .i64 y] W fun e w' => e = .returned (.agg #[.int .i64 3, .int .i64 0]) ∧ Below W.heap.size W w' := fun W => implJoin_no x y W hxy
    have hyx : (Ch.isM y && Ch.isM x) = false := by rw [Bool.and_comm]; exact hxy
    obtain ⟨i, hi⟩ : ∃ i, Ch.isM x = i := ⟨_, rfl⟩
    obtain ⟨c, s, hci, HT⟩ := textAt hi
    have hii : (i != i) = false := by simp
    have hfd := fun W => field_txt c s W
    go_wp2_with fail
    refine (HJ _).mono ?_
    rintro e w2 ⟨rfl, b2⟩
    have B2 := b1.trans (b2.mono b1.size)
    have B2 := B2.alloc (by have := B2.size; omega) (.cells #[.int .i64 3, .int .i64 0] 43)
    clear b2
    go_wp2_with fail
    refine (fitNo hxy _).mono ?_
    rintro e w3 ⟨rfl, b3⟩
    obtain ⟨x0, x1⟩ := (⟨box_cell b3 0, box_cell b3 1⟩ : _ ∧ _)
    simp at x0 x1
    have B3 := B2.trans (b3.mono B2.size)
    go_wp2_with fail
    refine (fitNo hyx _).mono ?_
    rintro e w4 ⟨rfl, b4⟩
    replace x0 := keep_cell b4 x0
    replace x1 := keep_cell b4 x1
    have B4 := B3.trans (b4.mono B3.size)
    go_wp2_with fail
    refine (fitNo hxy _).mono ?_
    rintro e w5 ⟨rfl, b5⟩
    replace x0 := keep_cell b5 x0
    replace x1 := keep_cell b5 x1
    have B5 := B4.trans (b5.mono B4.size)
    go_wp2_with fail
    refine (specFitNo hxy _).mono ?_
    rintro e w5' ⟨rfl, hw5⟩
    replace hw5 := hw5.symm
    subst hw5
    go_wp2_with fail
    refine (isModeAt hi _).mono ?_
    rintro e w5' ⟨rfl, hw5⟩
    replace hw5 := hw5.symm
    subst hw5
    go_wp2_with fail
    refine (HT _).mono ?_
    rintro e w6 ⟨rfl, b6⟩
    replace x0 := keep_cell b6 x0
    replace x1 := keep_cell b6 x1
    have B6 := B5.trans (b6.mono B5.size)
    clear b3 b4 b5 b6 B2 B3 B4 B5 HT
    cases i
    · have hc : c ≠ 0 := by intro e; subst e; simp at hci
      have hcb : (c == 0) = false := by simp [hc]
      go_wp2_with fail
      refine (isModeAt hi _).mono ?_
      rintro e w6' ⟨rfl, hw6⟩
      replace hw6 := hw6.symm
      subst hw6
      go_wp2_with fail
      refine (covNo hxy _).mono ?_
      rintro e w7 ⟨rfl, b7⟩
      have B7 := B6.trans (b7.mono B6.size)
      go_wp2_with fail
      go_ret
      exact ⟨rfl, B7⟩
    · obtain rfl : c = 0 := by simpa using hci
      have hj : Ch.isM y = false := by rw [hi] at hxy; simpa using hxy
      go_wp2_with fail
      refine (isModeAt hi _).mono ?_
      rintro e w6' ⟨rfl, hw6⟩
      replace hw6 := hw6.symm
      subst hw6
      go_wp2_with fail
      refine (isModeAt hj _).mono ?_
      rintro e w6' ⟨rfl, hw6⟩
      replace hw6 := hw6.symm
      subst hw6
      go_wp2_with fail
      refine (covNo hxy _).mono ?_
      rintro e w7 ⟨rfl, b7⟩
      have B7 := B6.trans (b7.mono B6.size)
      go_wp2_with fail
      go_ret
      exact ⟨rfl, B7⟩
  · simp only [Bool.and_eq_true] at hxy
    obtain ⟨hx, hy⟩ := hxy
    have HJ := fun W => implJoin_ok x y W hx hy
    have HJ' := fun W => implJoin_ok y x W hy hx
    have HJx := fun W => implJoin_ok x x W hx hx
    obtain ⟨jx, jy, js, jj⟩ := Ch.join_facts hx hy
    have hjm := Ch.join_isM hx hy
    have CX := fun W => covAt hjm hx W
    have CY := fun W => covAt hjm hy W
    rw [jx] at CX
    rw [jy] at CY
    rw [js] at HJ'
    rw [jj] at HJx
    have CJ : Hid (∀ m : Int, Ch.isM m = true → (!(Ch.tab Ch.covT m x && Ch.tab Ch.covT m y) || Ch.tab Ch.covT m (Ch.join x y)) = true) := fun m hm => Ch.cov_join hx hy hm
    have FL : Hid (∀ m : Int, Ch.isM m = true → (!(Ch.tab Ch.fitT x m && Ch.tab Ch.covT x y) || Ch.tab Ch.fitT y m) = true) := fun m hm => Ch.fit_less hx hy hm
    obtain ⟨c, s, hci, HT⟩ := textAt hx
    obtain rfl : c = 0 := by simpa using hci
    have FA := fun W => fitAt hx hy W
    have FB := fun W => fitAt hy hx W
    have FS := fun W => specFitAt hx hy W
    rw [Ch.fit_swap y x hy hx] at FB
    generalize Ch.tab Ch.fitT x y = f at FA FB FS
    generalize Ch.join x y = j at *
    have hff : (f != f) = false := by simp
    have hfd := fun W => field_txt 0 s W
    clear jx jy js jj hci
    go_wp2_with fail
    refine (HJ _).mono ?_
    rintro e w2 ⟨rfl, b2⟩
    have B2 := b1.trans (b2.mono b1.size)
    have B2 := B2.alloc (by have := B2.size; omega) (.cells #[.int .i64 0, .int .i64 j] 43)
    clear b2
    go_wp2_with fail
    refine (FA _).mono ?_
    rintro e w3 ⟨rfl, b3⟩
    obtain ⟨x0, x1⟩ := (⟨box_cell b3 0, box_cell b3 1⟩ : _ ∧ _)
    simp at x0 x1
    have B3 := B2.trans (b3.mono B2.size)
    go_wp2_with fail
    refine (FB _).mono ?_
    rintro e w4 ⟨rfl, b4⟩
    replace x0 := keep_cell b4 x0
    replace x1 := keep_cell b4 x1
    have B4 := B3.trans (b4.mono B3.size)
    go_wp2_with fail
    refine (FA _).mono ?_
    rintro e w5 ⟨rfl, b5⟩
    replace x0 := keep_cell b5 x0
    replace x1 := keep_cell b5 x1
    have B5 := B4.trans (b5.mono B4.size)
    go_wp2_with fail
    refine (FS _).mono ?_
    rintro e w5' ⟨rfl, hw5⟩
    replace hw5 := hw5.symm
    subst hw5
    go_wp2_with fail
    refine (isModeAt hx _).mono ?_
    rintro e w5' ⟨rfl, hw5⟩
    replace hw5 := hw5.symm
    subst hw5
    go_wp2_with fail
    refine (HT _).mono ?_
    rintro e w6 ⟨rfl, b6⟩
    replace x0 := keep_cell b6 x0
    replace x1 := keep_cell b6 x1
    have B6 := B5.trans (b6.mono B5.size)
    clear b3 b4 b5 b6 B2 B3 B4 B5 HT FA FB FS
    go_wp2_with fail
    generalize w2.heap.size = g at *
    go_loopw [6] (fun i wr => ∃ k : Nat, k ≤ 6 ∧ i = .int .i64 k ∧ wr.cell? ⟨g, 0, none⟩ = some (.int .i64 0) ∧ wr.cell? ⟨g, 1, none⟩ = some (.int .i64 j) ∧ Below w.heap.size w wr) (fun i _ => 6 - (intOf i).toNat)
    case atStart => exact ⟨0, by omega, rfl, x0, x1, B6⟩
    case round =>
      clear x0 x1 B6 hfd hff b1
      obtain ⟨k, hk, rfl, x0, x1, hB⟩ := hrel
      by_cases hlt : k < 6
      · have hki : (k : Int) ≤ 5 := by omega
        have hkm := isM_nat hlt
        have PA := fun W => covAt hkm hx W
        have PB := fun W => covAt hkm hy W
        have PC := fun W => covAt hkm hjm W
        have QA := fun W => fitAt hx hkm W
        have QB := fun W => covAt hx hy W
        have QC := fun W => fitAt hy hkm W
        have e1 := CJ.out k hkm
        have e2 := FL.out k hkm
        generalize Ch.tab Ch.covT (k : Int) x = p at *
        generalize Ch.tab Ch.covT (k : Int) y = q at *
        generalize Ch.tab Ch.covT (k : Int) j = r at *
        generalize Ch.tab Ch.fitT x (k : Int) = p' at *
        generalize Ch.tab Ch.covT x y = q' at *
        generalize Ch.tab Ch.fitT y (k : Int) = r' at *
        clear CJ FL hkm
        cases p
        · clear e1
          go_wp2_with fail
          refine (PA _).mono ?_
          rintro e u1 ⟨rfl, a1⟩
          replace x0 := keep_cell a1 x0
          replace x1 := keep_cell a1 x1
          have A1 := hB.trans (a1.mono hB.size)
          cases p'
          · clear e2
            go_wp2_with fail
            refine (QA _).mono ?_
            rintro e v1 ⟨rfl, c1⟩
            replace x0 := keep_cell c1 x0
            replace x1 := keep_cell c1 x1
            have D1 := A1.trans (c1.mono A1.size)
            go_wp2_with fail
            go_roundw
            case rel => exact ⟨k + 1, by omega, by go_num, x0, x1, D1⟩
            case measure => simp [intOf]; omega
          cases q'
          · clear e2
            go_wp2_with fail
            refine (QA _).mono ?_
            rintro e v1 ⟨rfl, c1⟩
            replace x0 := keep_cell c1 x0
            replace x1 := keep_cell c1 x1
            have D1 := A1.trans (c1.mono A1.size)
            go_wp2_with fail
            refine (QB _).mono ?_
            rintro e v2 ⟨rfl, c2⟩
            replace x0 := keep_cell c2 x0
            replace x1 := keep_cell c2 x1
            have D2 := D1.trans (c2.mono D1.size)
            go_wp2_with fail
            go_roundw
            case rel => exact ⟨k + 1, by omega, by go_num, x0, x1, D2⟩
            case measure => simp [intOf]; omega
          · obtain rfl : r' = true := by simpa using e2
            clear e2
            go_wp2_with fail
            refine (QA _).mono ?_
            rintro e v1 ⟨rfl, c1⟩
            replace x0 := keep_cell c1 x0
            replace x1 := keep_cell c1 x1
            have D1 := A1.trans (c1.mono A1.size)
            go_wp2_with fail
            refine (QB _).mono ?_
            rintro e v2 ⟨rfl, c2⟩
            replace x0 := keep_cell c2 x0
            replace x1 := keep_cell c2 x1
            have D2 := D1.trans (c2.mono D1.size)
            go_wp2_with fail
            refine (QC _).mono ?_
            rintro e v3 ⟨rfl, c3⟩
            replace x0 := keep_cell c3 x0
            replace x1 := keep_cell c3 x1
            have D3 := D2.trans (c3.mono D2.size)
            go_wp2_with fail
            go_roundw
            case rel => exact ⟨k + 1, by omega, by go_num, x0, x1, D3⟩
            case measure => simp [intOf]; omega
        cases q
        · clear e1
          go_wp2_with fail
          refine (PA _).mono ?_
          rintro e u1 ⟨rfl, a1⟩
          replace x0 := keep_cell a1 x0
          replace x1 := keep_cell a1 x1
          have A1 := hB.trans (a1.mono hB.size)
          go_wp2_with fail
          refine (PB _).mono ?_
          rintro e u2 ⟨rfl, a2⟩
          replace x0 := keep_cell a2 x0
          replace x1 := keep_cell a2 x1
          have A2 := A1.trans (a2.mono A1.size)
          cases p'
          · clear e2
            go_wp2_with fail
            refine (QA _).mono ?_
            rintro e v1 ⟨rfl, c1⟩
            replace x0 := keep_cell c1 x0
            replace x1 := keep_cell c1 x1
            have D1 := A2.trans (c1.mono A2.size)
            go_wp2_with fail
            go_roundw
            case rel => exact ⟨k + 1, by omega, by go_num, x0, x1, D1⟩
            case measure => simp [intOf]; omega
          cases q'
          · clear e2
            go_wp2_with fail
            refine (QA _).mono ?_
            rintro e v1 ⟨rfl, c1⟩
            replace x0 := keep_cell c1 x0
            replace x1 := keep_cell c1 x1
            have D1 := A2.trans (c1.mono A2.size)
            go_wp2_with fail
            refine (QB _).mono ?_
            rintro e v2 ⟨rfl, c2⟩
            replace x0 := keep_cell c2 x0
            replace x1 := keep_cell c2 x1
            have D2 := D1.trans (c2.mono D1.size)
            go_wp2_with fail
            go_roundw
            case rel => exact ⟨k + 1, by omega, by go_num, x0, x1, D2⟩
            case measure => simp [intOf]; omega
          · obtain rfl : r' = true := by simpa using e2
            clear e2
            go_wp2_with fail
            refine (QA _).mono ?_
            rintro e v1 ⟨rfl, c1⟩
            replace x0 := keep_cell c1 x0
            replace x1 := keep_cell c1 x1
            have D1 := A2.trans (c1.mono A2.size)
            go_wp2_with fail
            refine (QB _).mono ?_
            rintro e v2 ⟨rfl, c2⟩
            replace x0 := keep_cell c2 x0
            replace x1 := keep_cell c2 x1
            have D2 := D1.trans (c2.mono D1.size)
            go_wp2_with fail
            refine (QC _).mono ?_
            rintro e v3 ⟨rfl, c3⟩
            replace x0 := keep_cell c3 x0
            replace x1 := keep_cell c3 x1
            have D3 := D2.trans (c3.mono D2.size)
            go_wp2_with fail
            go_roundw
            case rel => exact ⟨k + 1, by omega, by go_num, x0, x1, D3⟩
            case measure => simp [intOf]; omega
        · obtain rfl : r = true := by simpa using e1
          clear e1
          go_wp2_with fail
          refine (PA _).mono ?_
          rintro e u1 ⟨rfl, a1⟩
          replace x0 := keep_cell a1 x0
          replace x1 := keep_cell a1 x1
          have A1 := hB.trans (a1.mono hB.size)
          go_wp2_with fail
          refine (PB _).mono ?_
          rintro e u2 ⟨rfl, a2⟩
          replace x0 := keep_cell a2 x0
          replace x1 := keep_cell a2 x1
          have A2 := A1.trans (a2.mono A1.size)
          go_wp2_with fail
          refine (PC _).mono ?_
          rintro e u3 ⟨rfl, a3⟩
          replace x0 := keep_cell a3 x0
          replace x1 := keep_cell a3 x1
          have A3 := A2.trans (a3.mono A2.size)
          cases p'
          · clear e2
            go_wp2_with fail
            refine (QA _).mono ?_
            rintro e v1 ⟨rfl, c1⟩
            replace x0 := keep_cell c1 x0
            replace x1 := keep_cell c1 x1
            have D1 := A3.trans (c1.mono A3.size)
            go_wp2_with fail
            go_roundw
            case rel => exact ⟨k + 1, by omega, by go_num, x0, x1, D1⟩
            case measure => simp [intOf]; omega
          cases q'
          · clear e2
            go_wp2_with fail
            refine (QA _).mono ?_
            rintro e v1 ⟨rfl, c1⟩
            replace x0 := keep_cell c1 x0
            replace x1 := keep_cell c1 x1
            have D1 := A3.trans (c1.mono A3.size)
            go_wp2_with fail
            refine (QB _).mono ?_
            rintro e v2 ⟨rfl, c2⟩
            replace x0 := keep_cell c2 x0
            replace x1 := keep_cell c2 x1
            have D2 := D1.trans (c2.mono D1.size)
            go_wp2_with fail
            go_roundw
            case rel => exact ⟨k + 1, by omega, by go_num, x0, x1, D2⟩
            case measure => simp [intOf]; omega
          · obtain rfl : r' = true := by simpa using e2
            clear e2
            go_wp2_with fail
            refine (QA _).mono ?_
            rintro e v1 ⟨rfl, c1⟩
            replace x0 := keep_cell c1 x0
            replace x1 := keep_cell c1 x1
            have D1 := A3.trans (c1.mono A3.size)
            go_wp2_with fail
            refine (QB _).mono ?_
            rintro e v2 ⟨rfl, c2⟩
            replace x0 := keep_cell c2 x0
            replace x1 := keep_cell c2 x1
            have D2 := D1.trans (c2.mono D1.size)
            go_wp2_with fail
            refine (QC _).mono ?_
            rintro e v3 ⟨rfl, c3⟩
            replace x0 := keep_cell c3 x0
            replace x1 := keep_cell c3 x1
            have D3 := D2.trans (c3.mono D2.size)
            go_wp2_with fail
            go_roundw
            case rel => exact ⟨k + 1, by omega, by go_num, x0, x1, D3⟩
            case measure => simp [intOf]; omega
      · obtain rfl : k = 6 := by omega
        clear CJ FL HJ hx hy hjm
        have heq := fun W => eqlInt 0 j 0 j W
        simp only [BEq.rfl, Bool.and_true] at heq
        have hfe := fun W => field_int 0 x W
        have hxx : (x == x) = true := by simp
        go_upto_region 16 with fail
        have HS : Hid (∀ W', Below wr.heap.size wr W' → W'.cell? ⟨g, 0, none⟩ = some (.int .i64 0) ∧ W'.cell? ⟨g, 1, none⟩ = some (.int .i64 j) ∧ Below wr.heap.size wr W') := fun W' hb' => ⟨keep_cell hb' x0, keep_cell hb' x1, hb'⟩
        refine wp_region_noPanic ?_
        refine wp_region_held_drew (S := fun W' => W'.cell? ⟨g, 0, none⟩ = some (.int .i64 0) ∧ W'.cell? ⟨g, 1, none⟩ = some (.int .i64 j) ∧ Below wr.heap.size wr W') (by kernel_rfl) (HS.out _ (Below.refl _ _).drew) (fun hH => ?_)
        refine hTake (i := 0) (v := ?_) rfl (by kernel_rfl) (by kernel_rfl) (by kernel_rfl) (by rfl) ?_ hH ?_
        rotate_left
        · intro W hW; (try dsimp only at hW); go_simp <;> with_reducible rfl
        simp only [Act.put, List.setIfInBounds_toArray, List.set_cons_zero, List.set_cons_succ]
        refine hTake (i := 1) (v := ?_) rfl (by kernel_rfl) (by kernel_rfl) (by kernel_rfl) (by rfl) ?_ hH ?_
        rotate_left
        · intro W hW; (try dsimp only at hW); go_simp <;> with_reducible rfl
        simp only [Act.put, List.setIfInBounds_toArray, List.set_cons_zero, List.set_cons_succ]
        refine hTake (i := 2) (v := ?_) rfl (by kernel_rfl) (by kernel_rfl) (by kernel_rfl) (by rfl) ?_ hH ?_
        rotate_left
        · intro W hW; (try dsimp only at hW); go_simp <;> with_reducible rfl
        simp only [Act.put, List.setIfInBounds_toArray, List.set_cons_zero, List.set_cons_succ]
        refine wpAnyH_ready (rs := [3]) (by kernel_rfl) (by simp) ?_
        refine AllReadyH.cons rfl (fun K hK => ?_) AllReadyH.nil
        go_simp
        refine (CX _).mono ?_
        rintro e u1 ⟨rfl, c1⟩
        have D1 := hH.2.2.trans (c1.mono hH.2.2.size)
        go_wp2_with fail
        refine hK.out _ _ ?_ (fun hH => ?_)
        · exact HS.out _ D1
        clear hK K
        refine hTake (i := 4) (v := ?_) rfl (by kernel_rfl) (by kernel_rfl) (by kernel_rfl) (by rfl) ?_ hH ?_
        rotate_left
        · intro W hW; (try dsimp only at hW); go_simp <;> with_reducible rfl
        simp only [Act.put, List.setIfInBounds_toArray, List.set_cons_zero, List.set_cons_succ]
        refine hTake (i := 5) (v := ?_) rfl (by kernel_rfl) (by kernel_rfl) (by kernel_rfl) (by rfl) ?_ hH ?_
        rotate_left
        · intro W hW; (try dsimp only at hW); go_simp <;> with_reducible rfl
        simp only [Act.put, List.setIfInBounds_toArray, List.set_cons_zero, List.set_cons_succ]
        refine hTake (i := 6) (v := ?_) rfl (by kernel_rfl) (by kernel_rfl) (by kernel_rfl) (by rfl) ?_ hH ?_
        rotate_left
        · intro W hW; (try dsimp only at hW); go_simp <;> with_reducible rfl
        simp only [Act.put, List.setIfInBounds_toArray, List.set_cons_zero, List.set_cons_succ]
        refine hTake (i := 7) (v := ?_) rfl (by kernel_rfl) (by kernel_rfl) (by kernel_rfl) (by rfl) ?_ hH ?_
        rotate_left
        · intro W hW; (try dsimp only at hW); go_simp <;> with_reducible rfl
        simp only [Act.put, List.setIfInBounds_toArray, List.set_cons_zero, List.set_cons_succ]
        refine wpAnyH_ready (rs := [8]) (by kernel_rfl) (by simp) ?_
        refine AllReadyH.cons rfl (fun K hK => ?_) AllReadyH.nil
        go_simp
        refine (CY _).mono ?_
        rintro e u2 ⟨rfl, c2⟩
        have D2 := hH.2.2.trans (c2.mono hH.2.2.size)
        go_wp2_with fail
        refine hK.out _ _ ?_ (fun hH => ?_)
        · exact HS.out _ D2
        clear hK K
        refine hTake (i := 9) (v := ?_) rfl (by kernel_rfl) (by kernel_rfl) (by kernel_rfl) (by rfl) ?_ hH ?_
        rotate_left
        · intro W hW; (try dsimp only at hW); go_simp <;> with_reducible rfl
        simp only [Act.put, List.setIfInBounds_toArray, List.set_cons_zero, List.set_cons_succ]
        refine hTake (i := 10) (v := ?_) rfl (by kernel_rfl) (by kernel_rfl) (by kernel_rfl) (by rfl) ?_ hH ?_
        rotate_left
        · intro W hW; (try dsimp only at hW); go_simp <;> with_reducible rfl
        simp only [Act.put, List.setIfInBounds_toArray, List.set_cons_zero, List.set_cons_succ]
        refine hTake (i := 11) (v := ?_) rfl (by kernel_rfl) (by kernel_rfl) (by kernel_rfl) (by rfl) ?_ hH ?_
        rotate_left
        · intro W hW; (try dsimp only at hW); go_simp <;> with_reducible rfl
        simp only [Act.put, List.setIfInBounds_toArray, List.set_cons_zero, List.set_cons_succ]
        refine hTake (i := 12) (v := ?_) rfl (by kernel_rfl) (by kernel_rfl) (by kernel_rfl) (by rfl) ?_ hH ?_
        rotate_left
        · intro W hW; (try dsimp only at hW); go_simp <;> with_reducible rfl
        simp only [Act.put, List.setIfInBounds_toArray, List.set_cons_zero, List.set_cons_succ]
        refine hTake (i := 14) (v := ?_) rfl (by kernel_rfl) (by kernel_rfl) (by kernel_rfl) (by rfl) ?_ hH ?_
        rotate_left
        · intro W hW; (try dsimp only at hW); go_simp <;> with_reducible rfl
        simp only [Act.put, List.setIfInBounds_toArray, List.set_cons_zero, List.set_cons_succ]
        refine wpAnyH_ready (rs := [13]) (by kernel_rfl) (by simp) ?_
        refine AllReadyH.cons rfl (fun K hK => ?_) AllReadyH.nil
        go_simp
        refine (HJ' _).mono ?_
        rintro e u3 ⟨rfl, c3⟩
        have D3 := hH.2.2.trans (c3.mono hH.2.2.size)
        go_wp2_with fail
        refine hK.out _ _ ?_ (fun hH => ?_)
        · exact HS.out _ D3
        clear hK K
        refine hTake (i := 15) (v := ?_) rfl (by kernel_rfl) (by kernel_rfl) (by kernel_rfl) (by rfl) ?_ hH ?_
        rotate_left
        · intro W hW; (try dsimp only at hW); go_simp <;> with_reducible rfl
        simp only [Act.put, List.setIfInBounds_toArray, List.set_cons_zero, List.set_cons_succ]
        refine hTake (i := 16) (v := ?_) rfl (by kernel_rfl) (by kernel_rfl) (by kernel_rfl) (by rfl) ?_ hH ?_
        rotate_left
        · intro W hW; (try dsimp only at hW); go_simp <;> with_reducible rfl
        simp only [Act.put, List.setIfInBounds_toArray, List.set_cons_zero, List.set_cons_succ]
        refine hTake (i := 17) (v := ?_) rfl (by kernel_rfl) (by kernel_rfl) (by kernel_rfl) (by rfl) ?_ hH ?_
        rotate_left
        · intro W hW; (try dsimp only at hW); go_simp <;> with_reducible rfl
        simp only [Act.put, List.setIfInBounds_toArray, List.set_cons_zero, List.set_cons_succ]
        refine hTake (i := 18) (v := ?_) rfl (by kernel_rfl) (by kernel_rfl) (by kernel_rfl) (by rfl) ?_ hH ?_
        rotate_left
        · intro W hW; (try dsimp only at hW); go_simp <;> with_reducible rfl
        simp only [Act.put, List.setIfInBounds_toArray, List.set_cons_zero, List.set_cons_succ]
        refine hTake (i := 19) (v := ?_) rfl (by kernel_rfl) (by kernel_rfl) (by kernel_rfl) (by rfl) ?_ hH ?_
        rotate_left
        · intro W hW; (try dsimp only at hW); go_simp <;> with_reducible rfl
        simp only [Act.put, List.setIfInBounds_toArray, List.set_cons_zero, List.set_cons_succ]
        refine hTake (i := 22) (v := ?_) rfl (by kernel_rfl) (by kernel_rfl) (by kernel_rfl) (by rfl) ?_ hH ?_
        rotate_left
        · intro W hW; (try dsimp only at hW); go_simp <;> with_reducible rfl
        simp only [Act.put, List.setIfInBounds_toArray, List.set_cons_zero, List.set_cons_succ]
        refine wpAnyH_ready (rs := [20]) (by kernel_rfl) (by simp) ?_
        refine AllReadyH.cons rfl (fun K hK => ?_) AllReadyH.nil
        go_simp
        refine (HJx _).mono ?_
        rintro e u4 ⟨rfl, c4⟩
        have D4 := hH.2.2.trans (c4.mono hH.2.2.size)
        go_wp2_with fail
        refine hK.out _ _ ?_ (fun hH => ?_)
        · exact HS.out _ D4
        clear hK K
        refine hTake (i := 21) (v := ?_) rfl (by kernel_rfl) (by kernel_rfl) (by kernel_rfl) (by rfl) ?_ hH ?_
        rotate_left
        · intro W hW; (try dsimp only at hW); go_simp <;> with_reducible rfl
        simp only [Act.put, List.setIfInBounds_toArray, List.set_cons_zero, List.set_cons_succ]
        refine hTake (i := 23) (v := ?_) rfl (by kernel_rfl) (by kernel_rfl) (by kernel_rfl) (by rfl) ?_ hH ?_
        rotate_left
        · intro W hW; (try dsimp only at hW); go_simp <;> with_reducible rfl
        simp only [Act.put, List.setIfInBounds_toArray, List.set_cons_zero, List.set_cons_succ]
        refine hTake (i := 24) (v := ?_) rfl (by kernel_rfl) (by kernel_rfl) (by kernel_rfl) (by rfl) ?_ hH ?_
        rotate_left
        · intro W hW; (try dsimp only at hW); go_simp <;> with_reducible rfl
        simp only [Act.put, List.setIfInBounds_toArray, List.set_cons_zero, List.set_cons_succ]
        refine hTake (i := 25) (v := ?_) rfl (by kernel_rfl) (by kernel_rfl) (by kernel_rfl) (by rfl) ?_ hH ?_
        rotate_left
        · intro W hW; (try dsimp only at hW); go_simp <;> with_reducible rfl
        simp only [Act.put, List.setIfInBounds_toArray, List.set_cons_zero, List.set_cons_succ]
        refine wpAnyH_done (by kernel_rfl) ?_ _
        refine NoPanic.normal ?_
        go_wp2_with fail
        go_ret
        exact ⟨rfl, hB.trans (D4.mono hB.size)⟩
end Go.Proofs.Ytommekhmdmnjlaa
