/- StrictActs of the model. -/
import Derived.Test.YtlpncikiaojmiaaStJ
import Derived.Test.YtlpncikiaojmiaaHTk
namespace Go.Proofs.Ytlpncikiaojmiaa
open Go.RowKit

theorem add_1 (x : Nat) : x + 1 + 1 = x + 2 := rfl
set_option maxHeartbeats 4000000 in
theorem l14Strict_any (a : Option Addr) (n cap : Nat) (ts : List Ch.Ac) (w : World) (h : AcAt w a n ts) (hn : n ≤ 1048576) (hF : Ch.acsF ts = 0) :
    Calls Try.prog 49 #[.slice a n cap] w fun e w' => e = .returned (.bool (Ch.strict ts)) ∧ Below w.heap.size w w' := by
  have HL := h.len
  have HZ := hid (Ch.acsF_zero hF).2
  clear hF
  obtain ⟨S, HS⟩ : ∃ S, Hid (Ch.strict ts = S) := ⟨_, rfl⟩
  rw [HS.out]
  have HA : Hid (AcAt w a n ts) := h
  clear h
  go_enter Try.func49, Try.ntmps49
  go_wp2
  go_loopw [3] (fun i wr => ∃ k : Nat, k ≤ n ∧ i = .int .i64 k ∧ Hid (Ch.strict (ts.drop k) = S) ∧ Below w.heap.size w wr) (fun i _ => n - (intOf i).toNat)
  case atStart => exact ⟨0, Nat.zero_le _, rfl, (by show _ = _; rw [List.drop_zero]; exact HS.out), Below.refl _ _⟩
  case round =>
    obtain ⟨k, hk, rfl, HI, hB⟩ := hrel
    by_cases hlt : k < n
    · have hkl : Hid (k < ts.length) := by show _ < _; have := HL.out; omega
      have HFl : Hid ((Ch.acAt ts k).fault = 0) := HZ.out k hkl.out
      have HFF : Hid (Ch.rowOk (Ch.acAt ts k) (ts.drop (k + 1)) = false → S = false) := fun h => (HI.out.symm.trans (Ch.strict_no hkl.out h))
      have HT : Hid (Ch.rowOk (Ch.acAt ts k) (ts.drop (k + 1)) = true → Ch.strict (ts.drop (k + 1)) = S) := fun h => ((Ch.strict_on hkl.out h).symm.trans HI.out)
      have HAk : ∀ W, Below w.heap.size w W → ∃ b off an nn cn, a = some ⟨b, off, none⟩ ∧ AcOne W b (off + k * 6) an nn cn (Ch.acAt ts k) := fun W hW => (HA.out.below hW).act hlt
      generalize Ch.acAt ts k = f at *
      obtain ⟨tx, kd, p, q, v, an⟩ := f
      obtain ⟨b, off, ai, ni, ci, rfl, _⟩ := HAk _ hB
      have HAk' : Hid (∀ W, Below w.heap.size w W → ∃ an' : Option Addr × Nat × Nat, AcOne W b (off + k * 6) an'.1 an'.2.1 an'.2.2 (Ch.Ac.mk tx kd p q v an)) := fun W hW => by
        obtain ⟨b', off', ai', ni', ci', hab, h1⟩ := HAk W hW
        simp only [Option.some.injEq, Addr.mk.injEq, and_true] at hab
        obtain ⟨rfl, rfl⟩ := hab
        exact ⟨(ai', ni', ci'), h1⟩
      clear HAk HI
      go_wp2
      go_loopw [4, 5] (fun ov jv wx => ∃ (o : Bool) (j : Nat), k + 1 ≤ j ∧ j ≤ n ∧ ov = .bool o ∧ jv = .int .i64 j ∧ Hid (o = true → Ch.rowOk ⟨tx, kd, p, q, v, an⟩ (ts.drop (k + 1)) = true) ∧ Hid (o = false → Ch.rowOk ⟨tx, kd, p, q, v, an⟩ (ts.drop (k + 1)) = Ch.rowOk ⟨tx, kd, p, q, v, an⟩ (ts.drop j)) ∧ Below w.heap.size w wx) (fun _ jv _ => n - (intOf jv).toNat)
      case atStart => exact ⟨false, k + 1, Nat.le_refl _, by omega, rfl, by go_num, hid (fun h => by cases h), hid (fun _ => rfl), hB⟩
      case round =>
        obtain ⟨o, j, hkj, hj, rfl, rfl, HO, HJ, hBx⟩ := hrel
        generalize hwx : wr = wx at *
        clear hwx
        by_cases hjl : j < n
        · cases o with
          | true =>
            have HR : Hid (Ch.strict (ts.drop (k + 1)) = S) := HT.out (HO.out rfl)
            go_wp2
            go_roundw
            case rel => exact ⟨k + 1, by omega, by go_num, HR, hBx⟩
            case measure => simp [intOf]; omega
          | false =>
            have HFj : Hid ((Ch.acAt ts j).fault = 0) := HZ.out j (by have := HL.out; omega)
            have HD := hid (Ch.dropA (ts := ts) (k := j) (by have := HL.out; omega))
            obtain ⟨⟨ai, ni, ci⟩, hc0, hc1, hc2, hc3, hc4, hc5, _, _⟩ := HAk'.out _ hBx
            obtain ⟨b', off', ai', ni', ci', hab, hd0, hd1, hd2, hd3, hd4, hd5, _, _⟩ := (HA.out.below hBx).act (k := j) hjl
            simp only [Option.some.injEq, Addr.mk.injEq, and_true] at hab
            obtain ⟨rfl, rfl⟩ := hab
            generalize Ch.acAt ts j = l at *
            obtain ⟨ltx, lk, la, lb, lv, lan⟩ := l
            simp only at hc0 hc1 hc2 hc3 hc4 hd0 hd1 hd2 hd3 hd4
            have hbl := lt_of_cell hc0
            clear hc5 hd5
            have HR : Hid (Ch.rowOk ⟨tx, kd, p, q, v, an⟩ (ts.drop (k + 1)) = Ch.rowOk ⟨tx, kd, p, q, v, an⟩ (⟨ltx, lk, la, lb, lv, lan⟩ :: ts.drop (j + 1))) := by
              show _ = _
              rw [HJ.out rfl, HD.out]
            clear HJ HD HO
            by_cases he : (ltx == tx) = true
            · have HW : Hid (Ch.forbid ⟨tx, kd, p, q, v, an⟩ ⟨ltx, lk, la, lb, lv, lan⟩ = Ch.isE kd) := Ch.forbid_own he
              go_wp2_with fail
              refine wp_region_noPanic ?_
              refine wp_region_held_drew (S := fun W' => W'.cell? ⟨b, off + k * 6, none⟩ = some (.int .i64 tx) ∧ W'.cell? ⟨b, off + j * 6, none⟩ = some (.int .i64 ltx) ∧ Below wx.heap.size wx W') (by kernel_rfl) (⟨hc0, hd0, (Below.refl _ _).drew⟩) (fun hH => ?_)
              refine hTake (i := 0) (v := ?_) rfl (by kernel_rfl) (by kernel_rfl) (by kernel_rfl) (by rfl) ?_ hH ?_
              rotate_left
              · intro W hW; (try dsimp only at hW); go_simp <;> with_reducible rfl
              simp only [Act.put, List.setIfInBounds_toArray, List.set_cons_zero, List.set_cons_succ]
              refine hTake (i := 1) (v := ?_) rfl (by kernel_rfl) (by kernel_rfl) (by kernel_rfl) (by rfl) ?_ hH ?_
              rotate_left
              · intro W hW; (try dsimp only at hW); go_simp <;> with_reducible rfl
              simp only [Act.put, List.setIfInBounds_toArray, List.set_cons_zero, List.set_cons_succ]
              refine hTake (i := 2) (v := ?_) rfl (by kernel_rfl) (by kernel_rfl) (by kernel_rfl) (by rfl) ?_ hH ?_
              rotate_left
              · intro W hW; (try dsimp only at hW); go_simp <;> with_reducible rfl
              simp only [Act.put, List.setIfInBounds_toArray, List.set_cons_zero, List.set_cons_succ]
              refine hTake (i := 3) (v := ?_) rfl (by kernel_rfl) (by kernel_rfl) (by kernel_rfl) (by rfl) ?_ hH ?_
              rotate_left
              · intro W hW; (try dsimp only at hW); go_simp <;> with_reducible rfl
              simp only [Act.put, List.setIfInBounds_toArray, List.set_cons_zero, List.set_cons_succ]
              refine hTake (i := 4) (v := ?_) rfl (by kernel_rfl) (by kernel_rfl) (by kernel_rfl) (by rfl) ?_ hH ?_
              rotate_left
              · intro W hW; (try dsimp only at hW); go_simp <;> with_reducible rfl
              simp only [Act.put, List.setIfInBounds_toArray, List.set_cons_zero, List.set_cons_succ]
              refine hTake (i := 5) (v := ?_) rfl (by kernel_rfl) (by kernel_rfl) (by kernel_rfl) (by rfl) ?_ hH ?_
              rotate_left
              · intro W hW; (try dsimp only at hW); go_simp <;> with_reducible rfl
              simp only [Act.put, List.setIfInBounds_toArray, List.set_cons_zero, List.set_cons_succ]
              refine hTake (i := 6) (v := ?_) rfl (by kernel_rfl) (by kernel_rfl) (by kernel_rfl) (by rfl) ?_ hH ?_
              rotate_left
              · intro W hW; (try dsimp only at hW); go_simp <;> with_reducible rfl
              simp only [Act.put, List.setIfInBounds_toArray, List.set_cons_zero, List.set_cons_succ]
              refine hTake (i := 7) (v := ?_) rfl (by kernel_rfl) (by kernel_rfl) (by kernel_rfl) (by rfl) ?_ hH ?_
              rotate_left
              · intro W hW; (try dsimp only at hW); go_simp <;> with_reducible rfl
              simp only [Act.put, List.setIfInBounds_toArray, List.set_cons_zero, List.set_cons_succ]
              refine hTake (i := 8) (v := ?_) rfl (by kernel_rfl) (by kernel_rfl) (by kernel_rfl) (by rfl) ?_ hH ?_
              rotate_left
              · intro W hW; (try dsimp only at hW); go_simp <;> with_reducible rfl
              simp only [Act.put, List.setIfInBounds_toArray, List.set_cons_zero, List.set_cons_succ]
              refine hTake (i := 9) (v := ?_) rfl (by kernel_rfl) (by kernel_rfl) (by kernel_rfl) (by rfl) ?_ hH ?_
              rotate_left
              · intro W hW; (try dsimp only at hW); go_simp <;> with_reducible rfl
              simp only [Act.put, List.setIfInBounds_toArray, List.set_cons_zero, List.set_cons_succ]
              refine hTake (i := 10) (v := ?_) rfl (by kernel_rfl) (by kernel_rfl) (by kernel_rfl) (by rfl) ?_ hH ?_
              rotate_left
              · intro W hW; (try dsimp only at hW); go_simp <;> with_reducible rfl
              simp only [Act.put, List.setIfInBounds_toArray, List.set_cons_zero, List.set_cons_succ]
              refine wpAnyH_done (by kernel_rfl) ?_ _
              refine NoPanic.normal ?_
              go_wp2_with fail
              obtain ⟨_, _, hB8⟩ := hH
              refine (l14Ends_any _ _ _ _ _).mono ?_
              rintro e w4 ⟨rfl, b4⟩
              have hB4 : Below wx.heap.size wx w4 := hB8.trans (b4.mono hB8.size)
              have hBw : Below w.heap.size w w4 := hBx.trans (hB4.mono hBx.size)
              replace hd1 := keep_cell hB4 hd1
              replace hd2 := keep_cell hB4 hd2
              replace hd3 := keep_cell hB4 hd3
              replace hd4 := keep_cell hB4 hd4
              have hbl4 := lt_of_cell hd1
              clear hc0 hc1 hc2 hc3 hc4 hd0 b4 hbl
              cases hE : Ch.isE kd with
              | true =>
                have HQ := hid (HFF.out (by rw [HR.out]; exact Ch.row_yes (HW.out.trans hE)))
                go_wp2
                go_ret
                exact ⟨ret_boolA HQ.out.symm, hBw⟩
              | false =>
                have HQ1 : Hid (Ch.isE lk = true → Ch.rowOk ⟨tx, kd, p, q, v, an⟩ (ts.drop (k + 1)) = true) := fun h => by rw [HR.out]; exact Ch.row_over (HW.out.trans hE) (by simp only; rw [he, h]; rfl)
                have HQ2 : Hid (Ch.isE lk = false → Ch.rowOk ⟨tx, kd, p, q, v, an⟩ (ts.drop (k + 1)) = Ch.rowOk ⟨tx, kd, p, q, v, an⟩ (ts.drop (j + 1))) := fun h => by rw [HR.out]; exact Ch.row_on (HW.out.trans hE) (by simp only; rw [he, h]; rfl)
                go_wp2_with fail
                refine (l14Ends_any _ _ _ _ _).mono ?_
                rintro e w5 ⟨rfl, b5⟩
                have hBv : Below w.heap.size w w5 := hBw.trans (b5.mono hBw.size)
                generalize Ch.isE lk = o2 at *
                go_wp2
                go_roundw
                case rel => exact ⟨o2, j + 1, by omega, by omega, rfl, by go_num, HQ1, HQ2, hBv⟩
                case measure => simp [intOf]; omega
            · have he' : (ltx == tx) = false := by simpa using he
              have HW : Hid (Ch.forbid ⟨tx, kd, p, q, v, an⟩ ⟨ltx, lk, la, lb, lv, lan⟩ = (Ch.isW kd && Ch.touch lk la lb p)) := Ch.forbid_other HFl.out HFj.out he'
              have IW := fun W => l14Writes_any kd p q v W
              have IT := fun W => l14Touches_any lk la lb lv p W
              have HN : Hid ((Ch.isW kd && Ch.touch lk la lb p) = false → Ch.rowOk ⟨tx, kd, p, q, v, an⟩ (ts.drop (k + 1)) = Ch.rowOk ⟨tx, kd, p, q, v, an⟩ (ts.drop (j + 1))) := fun h => by rw [HR.out]; exact Ch.row_on (HW.out.trans h) (by simp only; rw [he']; rfl)
              have HY : Hid ((Ch.isW kd && Ch.touch lk la lb p) = true → S = false) := fun h => HFF.out (by rw [HR.out]; exact Ch.row_yes (HW.out.trans h))
              clear HW HR he
              cases hW : Ch.isW kd with
              | true =>
                rw [hW] at IW
                cases hTt : Ch.touch lk la lb p with
                | true =>
                  rw [hTt] at IT
                  have HQ := hid (HY.out (by rw [hW, hTt]; rfl))
                  clear HN HY
                  go_wp2_with fail
                  refine wp_region_noPanic ?_
                  refine wp_region_held_drew (S := fun W' => W'.cell? ⟨b, off + k * 6, none⟩ = some (.int .i64 tx) ∧ W'.cell? ⟨b, off + j * 6, none⟩ = some (.int .i64 ltx) ∧ Below wx.heap.size wx W') (by kernel_rfl) (⟨hc0, hd0, (Below.refl _ _).drew⟩) (fun hH => ?_)
                  refine hTake (i := 0) (v := ?_) rfl (by kernel_rfl) (by kernel_rfl) (by kernel_rfl) (by rfl) ?_ hH ?_
                  rotate_left
                  · intro W hW; (try dsimp only at hW); go_simp <;> with_reducible rfl
                  simp only [Act.put, List.setIfInBounds_toArray, List.set_cons_zero, List.set_cons_succ]
                  refine hTake (i := 1) (v := ?_) rfl (by kernel_rfl) (by kernel_rfl) (by kernel_rfl) (by rfl) ?_ hH ?_
                  rotate_left
                  · intro W hW; (try dsimp only at hW); go_simp <;> with_reducible rfl
                  simp only [Act.put, List.setIfInBounds_toArray, List.set_cons_zero, List.set_cons_succ]
                  refine hTake (i := 2) (v := ?_) rfl (by kernel_rfl) (by kernel_rfl) (by kernel_rfl) (by rfl) ?_ hH ?_
                  rotate_left
                  · intro W hW; (try dsimp only at hW); go_simp <;> with_reducible rfl
                  simp only [Act.put, List.setIfInBounds_toArray, List.set_cons_zero, List.set_cons_succ]
                  refine hTake (i := 3) (v := ?_) rfl (by kernel_rfl) (by kernel_rfl) (by kernel_rfl) (by rfl) ?_ hH ?_
                  rotate_left
                  · intro W hW; (try dsimp only at hW); go_simp <;> with_reducible rfl
                  simp only [Act.put, List.setIfInBounds_toArray, List.set_cons_zero, List.set_cons_succ]
                  refine hTake (i := 4) (v := ?_) rfl (by kernel_rfl) (by kernel_rfl) (by kernel_rfl) (by rfl) ?_ hH ?_
                  rotate_left
                  · intro W hW; (try dsimp only at hW); go_simp <;> with_reducible rfl
                  simp only [Act.put, List.setIfInBounds_toArray, List.set_cons_zero, List.set_cons_succ]
                  refine hTake (i := 5) (v := ?_) rfl (by kernel_rfl) (by kernel_rfl) (by kernel_rfl) (by rfl) ?_ hH ?_
                  rotate_left
                  · intro W hW; (try dsimp only at hW); go_simp <;> with_reducible rfl
                  simp only [Act.put, List.setIfInBounds_toArray, List.set_cons_zero, List.set_cons_succ]
                  refine hTake (i := 6) (v := ?_) rfl (by kernel_rfl) (by kernel_rfl) (by kernel_rfl) (by rfl) ?_ hH ?_
                  rotate_left
                  · intro W hW; (try dsimp only at hW); go_simp <;> with_reducible rfl
                  simp only [Act.put, List.setIfInBounds_toArray, List.set_cons_zero, List.set_cons_succ]
                  refine hTake (i := 7) (v := ?_) rfl (by kernel_rfl) (by kernel_rfl) (by kernel_rfl) (by rfl) ?_ hH ?_
                  rotate_left
                  · intro W hW; (try dsimp only at hW); go_simp <;> with_reducible rfl
                  simp only [Act.put, List.setIfInBounds_toArray, List.set_cons_zero, List.set_cons_succ]
                  refine hTake (i := 8) (v := ?_) rfl (by kernel_rfl) (by kernel_rfl) (by kernel_rfl) (by rfl) ?_ hH ?_
                  rotate_left
                  · intro W hW; (try dsimp only at hW); go_simp <;> with_reducible rfl
                  simp only [Act.put, List.setIfInBounds_toArray, List.set_cons_zero, List.set_cons_succ]
                  refine hTake (i := 9) (v := ?_) rfl (by kernel_rfl) (by kernel_rfl) (by kernel_rfl) (by rfl) ?_ hH ?_
                  rotate_left
                  · intro W hW; (try dsimp only at hW); go_simp <;> with_reducible rfl
                  simp only [Act.put, List.setIfInBounds_toArray, List.set_cons_zero, List.set_cons_succ]
                  refine hTake (i := 10) (v := ?_) rfl (by kernel_rfl) (by kernel_rfl) (by kernel_rfl) (by rfl) ?_ hH ?_
                  rotate_left
                  · intro W hW; (try dsimp only at hW); go_simp <;> with_reducible rfl
                  simp only [Act.put, List.setIfInBounds_toArray, List.set_cons_zero, List.set_cons_succ]
                  refine wpAnyH_done (by kernel_rfl) ?_ _
                  refine NoPanic.normal ?_
                  go_wp2_with fail
                  obtain ⟨_, _, hB8⟩ := hH
                  refine wp_region_noPanic ?_
                  refine wp_region_held_drew (S := fun W' => W'.cell? ⟨b, off + k * 6, none⟩ = some (.int .i64 tx) ∧ W'.cell? ⟨b, off + k * 6 + 1, none⟩ = some (.int .i64 kd) ∧ W'.cell? ⟨b, off + k * 6 + 1 + 1, none⟩ = some (.int .i64 p) ∧ W'.cell? ⟨b, off + k * 6 + 1 + 2, none⟩ = some (.int .i64 q) ∧ W'.cell? ⟨b, off + k * 6 + 1 + 3, none⟩ = some (.int .i64 v) ∧ W'.cell? ⟨b, off + j * 6, none⟩ = some (.int .i64 ltx) ∧ W'.cell? ⟨b, off + j * 6 + 1, none⟩ = some (.int .i64 lk) ∧ W'.cell? ⟨b, off + j * 6 + 1 + 1, none⟩ = some (.int .i64 la) ∧ W'.cell? ⟨b, off + j * 6 + 1 + 2, none⟩ = some (.int .i64 lb) ∧ W'.cell? ⟨b, off + j * 6 + 1 + 3, none⟩ = some (.int .i64 lv) ∧ Below wx.heap.size wx W') (by kernel_rfl) (⟨hc0, hc1, hc2, hc3, hc4, hd0, hd1, hd2, hd3, hd4, hB8.drew⟩) (fun hH => ?_)
                  refine hTake (i := 0) (v := ?_) rfl (by kernel_rfl) (by kernel_rfl) (by kernel_rfl) (by rfl) ?_ hH ?_
                  rotate_left
                  · intro W hW; (try dsimp only at hW); go_simp <;> with_reducible rfl
                  simp only [Act.put, List.setIfInBounds_toArray, List.set_cons_zero, List.set_cons_succ]
                  refine hTake (i := 1) (v := ?_) rfl (by kernel_rfl) (by kernel_rfl) (by kernel_rfl) (by rfl) ?_ hH ?_
                  rotate_left
                  · intro W hW; (try dsimp only at hW); go_simp <;> with_reducible rfl
                  simp only [Act.put, List.setIfInBounds_toArray, List.set_cons_zero, List.set_cons_succ]
                  refine hTake (i := 2) (v := ?_) rfl (by kernel_rfl) (by kernel_rfl) (by kernel_rfl) (by rfl) ?_ hH ?_
                  rotate_left
                  · intro W hW; (try dsimp only at hW); go_simp <;> with_reducible rfl
                  simp only [Act.put, List.setIfInBounds_toArray, List.set_cons_zero, List.set_cons_succ]
                  refine hTake (i := 3) (v := ?_) rfl (by kernel_rfl) (by kernel_rfl) (by kernel_rfl) (by rfl) ?_ hH ?_
                  rotate_left
                  · intro W hW; (try dsimp only at hW); go_simp <;> with_reducible rfl
                  simp only [Act.put, List.setIfInBounds_toArray, List.set_cons_zero, List.set_cons_succ]
                  refine hTake (i := 4) (v := ?_) rfl (by kernel_rfl) (by kernel_rfl) (by kernel_rfl) (by rfl) ?_ hH ?_
                  rotate_left
                  · intro W hW; (try dsimp only at hW); go_simp <;> with_reducible rfl
                  simp only [Act.put, List.setIfInBounds_toArray, List.set_cons_zero, List.set_cons_succ]
                  refine wpAnyH_ready (rs := [5]) (by kernel_rfl) (by simp) ?_
                  refine AllReadyH.cons rfl (fun K hK => ?_) AllReadyH.nil
                  go_simp
                  refine (IW _).mono ?_
                  rintro e w4 ⟨rfl, b4⟩
                  go_wp2_with fail
                  refine hK.out _ _ ?_ (fun hH => ?_)
                  · exact ⟨keep_cell b4 hH.1, keep_cell b4 hH.2.1, keep_cell b4 hH.2.2.1, keep_cell b4 hH.2.2.2.1, keep_cell b4 hH.2.2.2.2.1, keep_cell b4 hH.2.2.2.2.2.1, keep_cell b4 hH.2.2.2.2.2.2.1, keep_cell b4 hH.2.2.2.2.2.2.2.1, keep_cell b4 hH.2.2.2.2.2.2.2.2.1, keep_cell b4 hH.2.2.2.2.2.2.2.2.2.1, hH.2.2.2.2.2.2.2.2.2.2.trans (b4.mono hH.2.2.2.2.2.2.2.2.2.2.size)⟩
                  clear hK K
                  refine hTake (i := 6) (v := ?_) rfl (by kernel_rfl) (by kernel_rfl) (by kernel_rfl) (by rfl) ?_ hH ?_
                  rotate_left
                  · intro W hW; (try dsimp only at hW); go_simp <;> with_reducible rfl
                  simp only [Act.put, List.setIfInBounds_toArray, List.set_cons_zero, List.set_cons_succ]
                  refine hTake (i := 7) (v := ?_) rfl (by kernel_rfl) (by kernel_rfl) (by kernel_rfl) (by rfl) ?_ hH ?_
                  rotate_left
                  · intro W hW; (try dsimp only at hW); go_simp <;> with_reducible rfl
                  simp only [Act.put, List.setIfInBounds_toArray, List.set_cons_zero, List.set_cons_succ]
                  refine hTake (i := 8) (v := ?_) rfl (by kernel_rfl) (by kernel_rfl) (by kernel_rfl) (by rfl) ?_ hH ?_
                  rotate_left
                  · intro W hW; (try dsimp only at hW); go_simp <;> with_reducible rfl
                  simp only [Act.put, List.setIfInBounds_toArray, List.set_cons_zero, List.set_cons_succ]
                  refine hTake (i := 9) (v := ?_) rfl (by kernel_rfl) (by kernel_rfl) (by kernel_rfl) (by rfl) ?_ hH ?_
                  rotate_left
                  · intro W hW; (try dsimp only at hW); go_simp <;> with_reducible rfl
                  simp only [Act.put, List.setIfInBounds_toArray, List.set_cons_zero, List.set_cons_succ]
                  refine hTake (i := 10) (v := ?_) rfl (by kernel_rfl) (by kernel_rfl) (by kernel_rfl) (by rfl) ?_ hH ?_
                  rotate_left
                  · intro W hW; (try dsimp only at hW); go_simp <;> with_reducible rfl
                  simp only [Act.put, List.setIfInBounds_toArray, List.set_cons_zero, List.set_cons_succ]
                  refine hTake (i := 11) (v := ?_) rfl (by kernel_rfl) (by kernel_rfl) (by kernel_rfl) (by rfl) ?_ hH ?_
                  rotate_left
                  · intro W hW; (try dsimp only at hW); go_simp <;> with_reducible rfl
                  simp only [Act.put, List.setIfInBounds_toArray, List.set_cons_zero, List.set_cons_succ]
                  refine hTake (i := 12) (v := ?_) rfl (by kernel_rfl) (by kernel_rfl) (by kernel_rfl) (by rfl) ?_ hH ?_
                  rotate_left
                  · intro W hW; (try dsimp only at hW); go_simp <;> with_reducible rfl
                  simp only [Act.put, List.setIfInBounds_toArray, List.set_cons_zero, List.set_cons_succ]
                  refine hTake (i := 13) (v := ?_) rfl (by kernel_rfl) (by kernel_rfl) (by kernel_rfl) (by rfl) ?_ hH ?_
                  rotate_left
                  · intro W hW; (try dsimp only at hW); go_simp <;> with_reducible rfl
                  simp only [Act.put, List.setIfInBounds_toArray, List.set_cons_zero, List.set_cons_succ]
                  refine hTake (i := 14) (v := ?_) rfl (by kernel_rfl) (by kernel_rfl) (by kernel_rfl) (by rfl) ?_ hH ?_
                  rotate_left
                  · intro W hW; (try dsimp only at hW); go_simp <;> with_reducible rfl
                  simp only [Act.put, List.setIfInBounds_toArray, List.set_cons_zero, List.set_cons_succ]
                  refine hTake (i := 15) (v := ?_) rfl (by kernel_rfl) (by kernel_rfl) (by kernel_rfl) (by rfl) ?_ hH ?_
                  rotate_left
                  · intro W hW; (try dsimp only at hW); go_simp <;> with_reducible rfl
                  simp only [Act.put, List.setIfInBounds_toArray, List.set_cons_zero, List.set_cons_succ]
                  refine hTake (i := 16) (v := ?_) rfl (by kernel_rfl) (by kernel_rfl) (by kernel_rfl) (by rfl) ?_ hH ?_
                  rotate_left
                  · intro W hW; (try dsimp only at hW); go_simp <;> with_reducible rfl
                  simp only [Act.put, List.setIfInBounds_toArray, List.set_cons_zero, List.set_cons_succ]
                  refine hTake (i := 17) (v := ?_) rfl (by kernel_rfl) (by kernel_rfl) (by kernel_rfl) (by rfl) ?_ hH ?_
                  rotate_left
                  · intro W hW; (try dsimp only at hW); go_simp <;> with_reducible rfl
                  simp only [Act.put, List.setIfInBounds_toArray, List.set_cons_zero, List.set_cons_succ]
                  refine wpAnyH_ready (rs := [18]) (by kernel_rfl) (by simp) ?_
                  refine AllReadyH.cons rfl (fun K hK => ?_) AllReadyH.nil
                  go_simp
                  refine (IT _).mono ?_
                  rintro e w4 ⟨rfl, b4⟩
                  go_wp2_with fail
                  refine hK.out _ _ ?_ (fun hH => ?_)
                  · exact ⟨keep_cell b4 hH.1, keep_cell b4 hH.2.1, keep_cell b4 hH.2.2.1, keep_cell b4 hH.2.2.2.1, keep_cell b4 hH.2.2.2.2.1, keep_cell b4 hH.2.2.2.2.2.1, keep_cell b4 hH.2.2.2.2.2.2.1, keep_cell b4 hH.2.2.2.2.2.2.2.1, keep_cell b4 hH.2.2.2.2.2.2.2.2.1, keep_cell b4 hH.2.2.2.2.2.2.2.2.2.1, hH.2.2.2.2.2.2.2.2.2.2.trans (b4.mono hH.2.2.2.2.2.2.2.2.2.2.size)⟩
                  clear hK K
                  refine hTake (i := 19) (v := ?_) rfl (by kernel_rfl) (by kernel_rfl) (by kernel_rfl) (by rfl) ?_ hH ?_
                  rotate_left
                  · intro W hW; (try dsimp only at hW); go_simp <;> with_reducible rfl
                  simp only [Act.put, List.setIfInBounds_toArray, List.set_cons_zero, List.set_cons_succ]
                  refine wpAnyH_done (by kernel_rfl) ?_ _
                  refine NoPanic.normal ?_
                  obtain ⟨_, _, _, _, _, _, _, _, _, _, hB12⟩ := hH
                  go_wp2
                  go_ret
                  exact ⟨ret_boolA HQ.out.symm, hBx.trans (hB12.mono hBx.size)⟩
                | false =>
                  rw [hTt] at IT
                  have HQ := hid (HN.out (by rw [hW, hTt]; rfl))
                  clear HN HY
                  go_wp2_with fail
                  refine wp_region_noPanic ?_
                  refine wp_region_held_drew (S := fun W' => W'.cell? ⟨b, off + k * 6, none⟩ = some (.int .i64 tx) ∧ W'.cell? ⟨b, off + j * 6, none⟩ = some (.int .i64 ltx) ∧ Below wx.heap.size wx W') (by kernel_rfl) (⟨hc0, hd0, (Below.refl _ _).drew⟩) (fun hH => ?_)
                  refine hTake (i := 0) (v := ?_) rfl (by kernel_rfl) (by kernel_rfl) (by kernel_rfl) (by rfl) ?_ hH ?_
                  rotate_left
                  · intro W hW; (try dsimp only at hW); go_simp <;> with_reducible rfl
                  simp only [Act.put, List.setIfInBounds_toArray, List.set_cons_zero, List.set_cons_succ]
                  refine hTake (i := 1) (v := ?_) rfl (by kernel_rfl) (by kernel_rfl) (by kernel_rfl) (by rfl) ?_ hH ?_
                  rotate_left
                  · intro W hW; (try dsimp only at hW); go_simp <;> with_reducible rfl
                  simp only [Act.put, List.setIfInBounds_toArray, List.set_cons_zero, List.set_cons_succ]
                  refine hTake (i := 2) (v := ?_) rfl (by kernel_rfl) (by kernel_rfl) (by kernel_rfl) (by rfl) ?_ hH ?_
                  rotate_left
                  · intro W hW; (try dsimp only at hW); go_simp <;> with_reducible rfl
                  simp only [Act.put, List.setIfInBounds_toArray, List.set_cons_zero, List.set_cons_succ]
                  refine hTake (i := 3) (v := ?_) rfl (by kernel_rfl) (by kernel_rfl) (by kernel_rfl) (by rfl) ?_ hH ?_
                  rotate_left
                  · intro W hW; (try dsimp only at hW); go_simp <;> with_reducible rfl
                  simp only [Act.put, List.setIfInBounds_toArray, List.set_cons_zero, List.set_cons_succ]
                  refine hTake (i := 4) (v := ?_) rfl (by kernel_rfl) (by kernel_rfl) (by kernel_rfl) (by rfl) ?_ hH ?_
                  rotate_left
                  · intro W hW; (try dsimp only at hW); go_simp <;> with_reducible rfl
                  simp only [Act.put, List.setIfInBounds_toArray, List.set_cons_zero, List.set_cons_succ]
                  refine hTake (i := 5) (v := ?_) rfl (by kernel_rfl) (by kernel_rfl) (by kernel_rfl) (by rfl) ?_ hH ?_
                  rotate_left
                  · intro W hW; (try dsimp only at hW); go_simp <;> with_reducible rfl
                  simp only [Act.put, List.setIfInBounds_toArray, List.set_cons_zero, List.set_cons_succ]
                  refine hTake (i := 6) (v := ?_) rfl (by kernel_rfl) (by kernel_rfl) (by kernel_rfl) (by rfl) ?_ hH ?_
                  rotate_left
                  · intro W hW; (try dsimp only at hW); go_simp <;> with_reducible rfl
                  simp only [Act.put, List.setIfInBounds_toArray, List.set_cons_zero, List.set_cons_succ]
                  refine hTake (i := 7) (v := ?_) rfl (by kernel_rfl) (by kernel_rfl) (by kernel_rfl) (by rfl) ?_ hH ?_
                  rotate_left
                  · intro W hW; (try dsimp only at hW); go_simp <;> with_reducible rfl
                  simp only [Act.put, List.setIfInBounds_toArray, List.set_cons_zero, List.set_cons_succ]
                  refine hTake (i := 8) (v := ?_) rfl (by kernel_rfl) (by kernel_rfl) (by kernel_rfl) (by rfl) ?_ hH ?_
                  rotate_left
                  · intro W hW; (try dsimp only at hW); go_simp <;> with_reducible rfl
                  simp only [Act.put, List.setIfInBounds_toArray, List.set_cons_zero, List.set_cons_succ]
                  refine hTake (i := 9) (v := ?_) rfl (by kernel_rfl) (by kernel_rfl) (by kernel_rfl) (by rfl) ?_ hH ?_
                  rotate_left
                  · intro W hW; (try dsimp only at hW); go_simp <;> with_reducible rfl
                  simp only [Act.put, List.setIfInBounds_toArray, List.set_cons_zero, List.set_cons_succ]
                  refine hTake (i := 10) (v := ?_) rfl (by kernel_rfl) (by kernel_rfl) (by kernel_rfl) (by rfl) ?_ hH ?_
                  rotate_left
                  · intro W hW; (try dsimp only at hW); go_simp <;> with_reducible rfl
                  simp only [Act.put, List.setIfInBounds_toArray, List.set_cons_zero, List.set_cons_succ]
                  refine wpAnyH_done (by kernel_rfl) ?_ _
                  refine NoPanic.normal ?_
                  go_wp2_with fail
                  obtain ⟨_, _, hB8⟩ := hH
                  refine wp_region_noPanic ?_
                  refine wp_region_held_drew (S := fun W' => W'.cell? ⟨b, off + k * 6, none⟩ = some (.int .i64 tx) ∧ W'.cell? ⟨b, off + k * 6 + 1, none⟩ = some (.int .i64 kd) ∧ W'.cell? ⟨b, off + k * 6 + 1 + 1, none⟩ = some (.int .i64 p) ∧ W'.cell? ⟨b, off + k * 6 + 1 + 2, none⟩ = some (.int .i64 q) ∧ W'.cell? ⟨b, off + k * 6 + 1 + 3, none⟩ = some (.int .i64 v) ∧ W'.cell? ⟨b, off + j * 6, none⟩ = some (.int .i64 ltx) ∧ W'.cell? ⟨b, off + j * 6 + 1, none⟩ = some (.int .i64 lk) ∧ W'.cell? ⟨b, off + j * 6 + 1 + 1, none⟩ = some (.int .i64 la) ∧ W'.cell? ⟨b, off + j * 6 + 1 + 2, none⟩ = some (.int .i64 lb) ∧ W'.cell? ⟨b, off + j * 6 + 1 + 3, none⟩ = some (.int .i64 lv) ∧ Below wx.heap.size wx W') (by kernel_rfl) (⟨hc0, hc1, hc2, hc3, hc4, hd0, hd1, hd2, hd3, hd4, hB8.drew⟩) (fun hH => ?_)
                  refine hTake (i := 0) (v := ?_) rfl (by kernel_rfl) (by kernel_rfl) (by kernel_rfl) (by rfl) ?_ hH ?_
                  rotate_left
                  · intro W hW; (try dsimp only at hW); go_simp <;> with_reducible rfl
                  simp only [Act.put, List.setIfInBounds_toArray, List.set_cons_zero, List.set_cons_succ]
                  refine hTake (i := 1) (v := ?_) rfl (by kernel_rfl) (by kernel_rfl) (by kernel_rfl) (by rfl) ?_ hH ?_
                  rotate_left
                  · intro W hW; (try dsimp only at hW); go_simp <;> with_reducible rfl
                  simp only [Act.put, List.setIfInBounds_toArray, List.set_cons_zero, List.set_cons_succ]
                  refine hTake (i := 2) (v := ?_) rfl (by kernel_rfl) (by kernel_rfl) (by kernel_rfl) (by rfl) ?_ hH ?_
                  rotate_left
                  · intro W hW; (try dsimp only at hW); go_simp <;> with_reducible rfl
                  simp only [Act.put, List.setIfInBounds_toArray, List.set_cons_zero, List.set_cons_succ]
                  refine hTake (i := 3) (v := ?_) rfl (by kernel_rfl) (by kernel_rfl) (by kernel_rfl) (by rfl) ?_ hH ?_
                  rotate_left
                  · intro W hW; (try dsimp only at hW); go_simp <;> with_reducible rfl
                  simp only [Act.put, List.setIfInBounds_toArray, List.set_cons_zero, List.set_cons_succ]
                  refine hTake (i := 4) (v := ?_) rfl (by kernel_rfl) (by kernel_rfl) (by kernel_rfl) (by rfl) ?_ hH ?_
                  rotate_left
                  · intro W hW; (try dsimp only at hW); go_simp <;> with_reducible rfl
                  simp only [Act.put, List.setIfInBounds_toArray, List.set_cons_zero, List.set_cons_succ]
                  refine wpAnyH_ready (rs := [5]) (by kernel_rfl) (by simp) ?_
                  refine AllReadyH.cons rfl (fun K hK => ?_) AllReadyH.nil
                  go_simp
                  refine (IW _).mono ?_
                  rintro e w4 ⟨rfl, b4⟩
                  go_wp2_with fail
                  refine hK.out _ _ ?_ (fun hH => ?_)
                  · exact ⟨keep_cell b4 hH.1, keep_cell b4 hH.2.1, keep_cell b4 hH.2.2.1, keep_cell b4 hH.2.2.2.1, keep_cell b4 hH.2.2.2.2.1, keep_cell b4 hH.2.2.2.2.2.1, keep_cell b4 hH.2.2.2.2.2.2.1, keep_cell b4 hH.2.2.2.2.2.2.2.1, keep_cell b4 hH.2.2.2.2.2.2.2.2.1, keep_cell b4 hH.2.2.2.2.2.2.2.2.2.1, hH.2.2.2.2.2.2.2.2.2.2.trans (b4.mono hH.2.2.2.2.2.2.2.2.2.2.size)⟩
                  clear hK K
                  refine hTake (i := 6) (v := ?_) rfl (by kernel_rfl) (by kernel_rfl) (by kernel_rfl) (by rfl) ?_ hH ?_
                  rotate_left
                  · intro W hW; (try dsimp only at hW); go_simp <;> with_reducible rfl
                  simp only [Act.put, List.setIfInBounds_toArray, List.set_cons_zero, List.set_cons_succ]
                  refine hTake (i := 7) (v := ?_) rfl (by kernel_rfl) (by kernel_rfl) (by kernel_rfl) (by rfl) ?_ hH ?_
                  rotate_left
                  · intro W hW; (try dsimp only at hW); go_simp <;> with_reducible rfl
                  simp only [Act.put, List.setIfInBounds_toArray, List.set_cons_zero, List.set_cons_succ]
                  refine hTake (i := 8) (v := ?_) rfl (by kernel_rfl) (by kernel_rfl) (by kernel_rfl) (by rfl) ?_ hH ?_
                  rotate_left
                  · intro W hW; (try dsimp only at hW); go_simp <;> with_reducible rfl
                  simp only [Act.put, List.setIfInBounds_toArray, List.set_cons_zero, List.set_cons_succ]
                  refine hTake (i := 9) (v := ?_) rfl (by kernel_rfl) (by kernel_rfl) (by kernel_rfl) (by rfl) ?_ hH ?_
                  rotate_left
                  · intro W hW; (try dsimp only at hW); go_simp <;> with_reducible rfl
                  simp only [Act.put, List.setIfInBounds_toArray, List.set_cons_zero, List.set_cons_succ]
                  refine hTake (i := 10) (v := ?_) rfl (by kernel_rfl) (by kernel_rfl) (by kernel_rfl) (by rfl) ?_ hH ?_
                  rotate_left
                  · intro W hW; (try dsimp only at hW); go_simp <;> with_reducible rfl
                  simp only [Act.put, List.setIfInBounds_toArray, List.set_cons_zero, List.set_cons_succ]
                  refine hTake (i := 11) (v := ?_) rfl (by kernel_rfl) (by kernel_rfl) (by kernel_rfl) (by rfl) ?_ hH ?_
                  rotate_left
                  · intro W hW; (try dsimp only at hW); go_simp <;> with_reducible rfl
                  simp only [Act.put, List.setIfInBounds_toArray, List.set_cons_zero, List.set_cons_succ]
                  refine hTake (i := 12) (v := ?_) rfl (by kernel_rfl) (by kernel_rfl) (by kernel_rfl) (by rfl) ?_ hH ?_
                  rotate_left
                  · intro W hW; (try dsimp only at hW); go_simp <;> with_reducible rfl
                  simp only [Act.put, List.setIfInBounds_toArray, List.set_cons_zero, List.set_cons_succ]
                  refine hTake (i := 13) (v := ?_) rfl (by kernel_rfl) (by kernel_rfl) (by kernel_rfl) (by rfl) ?_ hH ?_
                  rotate_left
                  · intro W hW; (try dsimp only at hW); go_simp <;> with_reducible rfl
                  simp only [Act.put, List.setIfInBounds_toArray, List.set_cons_zero, List.set_cons_succ]
                  refine hTake (i := 14) (v := ?_) rfl (by kernel_rfl) (by kernel_rfl) (by kernel_rfl) (by rfl) ?_ hH ?_
                  rotate_left
                  · intro W hW; (try dsimp only at hW); go_simp <;> with_reducible rfl
                  simp only [Act.put, List.setIfInBounds_toArray, List.set_cons_zero, List.set_cons_succ]
                  refine hTake (i := 15) (v := ?_) rfl (by kernel_rfl) (by kernel_rfl) (by kernel_rfl) (by rfl) ?_ hH ?_
                  rotate_left
                  · intro W hW; (try dsimp only at hW); go_simp <;> with_reducible rfl
                  simp only [Act.put, List.setIfInBounds_toArray, List.set_cons_zero, List.set_cons_succ]
                  refine hTake (i := 16) (v := ?_) rfl (by kernel_rfl) (by kernel_rfl) (by kernel_rfl) (by rfl) ?_ hH ?_
                  rotate_left
                  · intro W hW; (try dsimp only at hW); go_simp <;> with_reducible rfl
                  simp only [Act.put, List.setIfInBounds_toArray, List.set_cons_zero, List.set_cons_succ]
                  refine hTake (i := 17) (v := ?_) rfl (by kernel_rfl) (by kernel_rfl) (by kernel_rfl) (by rfl) ?_ hH ?_
                  rotate_left
                  · intro W hW; (try dsimp only at hW); go_simp <;> with_reducible rfl
                  simp only [Act.put, List.setIfInBounds_toArray, List.set_cons_zero, List.set_cons_succ]
                  refine wpAnyH_ready (rs := [18]) (by kernel_rfl) (by simp) ?_
                  refine AllReadyH.cons rfl (fun K hK => ?_) AllReadyH.nil
                  go_simp
                  refine (IT _).mono ?_
                  rintro e w4 ⟨rfl, b4⟩
                  go_wp2_with fail
                  refine hK.out _ _ ?_ (fun hH => ?_)
                  · exact ⟨keep_cell b4 hH.1, keep_cell b4 hH.2.1, keep_cell b4 hH.2.2.1, keep_cell b4 hH.2.2.2.1, keep_cell b4 hH.2.2.2.2.1, keep_cell b4 hH.2.2.2.2.2.1, keep_cell b4 hH.2.2.2.2.2.2.1, keep_cell b4 hH.2.2.2.2.2.2.2.1, keep_cell b4 hH.2.2.2.2.2.2.2.2.1, keep_cell b4 hH.2.2.2.2.2.2.2.2.2.1, hH.2.2.2.2.2.2.2.2.2.2.trans (b4.mono hH.2.2.2.2.2.2.2.2.2.2.size)⟩
                  clear hK K
                  refine hTake (i := 19) (v := ?_) rfl (by kernel_rfl) (by kernel_rfl) (by kernel_rfl) (by rfl) ?_ hH ?_
                  rotate_left
                  · intro W hW; (try dsimp only at hW); go_simp <;> with_reducible rfl
                  simp only [Act.put, List.setIfInBounds_toArray, List.set_cons_zero, List.set_cons_succ]
                  refine wpAnyH_done (by kernel_rfl) ?_ _
                  refine NoPanic.normal ?_
                  obtain ⟨_, _, _, _, _, _, _, _, _, _, hB12⟩ := hH
                  go_wp2
                  go_roundw
                  case rel => exact ⟨false, j + 1, by omega, by omega, rfl, by go_num, hid (fun h => by cases h), hid (fun _ => HQ.out), hBx.trans (hB12.mono hBx.size)⟩
                  case measure => simp [intOf]; omega
              | false =>
                rw [hW] at IW
                have HQ := hid (HN.out (by rw [hW]; rfl))
                clear HN HY
                go_wp2_with fail
                refine wp_region_noPanic ?_
                refine wp_region_held_drew (S := fun W' => W'.cell? ⟨b, off + k * 6, none⟩ = some (.int .i64 tx) ∧ W'.cell? ⟨b, off + j * 6, none⟩ = some (.int .i64 ltx) ∧ Below wx.heap.size wx W') (by kernel_rfl) (⟨hc0, hd0, (Below.refl _ _).drew⟩) (fun hH => ?_)
                refine hTake (i := 0) (v := ?_) rfl (by kernel_rfl) (by kernel_rfl) (by kernel_rfl) (by rfl) ?_ hH ?_
                rotate_left
                · intro W hW; (try dsimp only at hW); go_simp <;> with_reducible rfl
                simp only [Act.put, List.setIfInBounds_toArray, List.set_cons_zero, List.set_cons_succ]
                refine hTake (i := 1) (v := ?_) rfl (by kernel_rfl) (by kernel_rfl) (by kernel_rfl) (by rfl) ?_ hH ?_
                rotate_left
                · intro W hW; (try dsimp only at hW); go_simp <;> with_reducible rfl
                simp only [Act.put, List.setIfInBounds_toArray, List.set_cons_zero, List.set_cons_succ]
                refine hTake (i := 2) (v := ?_) rfl (by kernel_rfl) (by kernel_rfl) (by kernel_rfl) (by rfl) ?_ hH ?_
                rotate_left
                · intro W hW; (try dsimp only at hW); go_simp <;> with_reducible rfl
                simp only [Act.put, List.setIfInBounds_toArray, List.set_cons_zero, List.set_cons_succ]
                refine hTake (i := 3) (v := ?_) rfl (by kernel_rfl) (by kernel_rfl) (by kernel_rfl) (by rfl) ?_ hH ?_
                rotate_left
                · intro W hW; (try dsimp only at hW); go_simp <;> with_reducible rfl
                simp only [Act.put, List.setIfInBounds_toArray, List.set_cons_zero, List.set_cons_succ]
                refine hTake (i := 4) (v := ?_) rfl (by kernel_rfl) (by kernel_rfl) (by kernel_rfl) (by rfl) ?_ hH ?_
                rotate_left
                · intro W hW; (try dsimp only at hW); go_simp <;> with_reducible rfl
                simp only [Act.put, List.setIfInBounds_toArray, List.set_cons_zero, List.set_cons_succ]
                refine hTake (i := 5) (v := ?_) rfl (by kernel_rfl) (by kernel_rfl) (by kernel_rfl) (by rfl) ?_ hH ?_
                rotate_left
                · intro W hW; (try dsimp only at hW); go_simp <;> with_reducible rfl
                simp only [Act.put, List.setIfInBounds_toArray, List.set_cons_zero, List.set_cons_succ]
                refine hTake (i := 6) (v := ?_) rfl (by kernel_rfl) (by kernel_rfl) (by kernel_rfl) (by rfl) ?_ hH ?_
                rotate_left
                · intro W hW; (try dsimp only at hW); go_simp <;> with_reducible rfl
                simp only [Act.put, List.setIfInBounds_toArray, List.set_cons_zero, List.set_cons_succ]
                refine hTake (i := 7) (v := ?_) rfl (by kernel_rfl) (by kernel_rfl) (by kernel_rfl) (by rfl) ?_ hH ?_
                rotate_left
                · intro W hW; (try dsimp only at hW); go_simp <;> with_reducible rfl
                simp only [Act.put, List.setIfInBounds_toArray, List.set_cons_zero, List.set_cons_succ]
                refine hTake (i := 8) (v := ?_) rfl (by kernel_rfl) (by kernel_rfl) (by kernel_rfl) (by rfl) ?_ hH ?_
                rotate_left
                · intro W hW; (try dsimp only at hW); go_simp <;> with_reducible rfl
                simp only [Act.put, List.setIfInBounds_toArray, List.set_cons_zero, List.set_cons_succ]
                refine hTake (i := 9) (v := ?_) rfl (by kernel_rfl) (by kernel_rfl) (by kernel_rfl) (by rfl) ?_ hH ?_
                rotate_left
                · intro W hW; (try dsimp only at hW); go_simp <;> with_reducible rfl
                simp only [Act.put, List.setIfInBounds_toArray, List.set_cons_zero, List.set_cons_succ]
                refine hTake (i := 10) (v := ?_) rfl (by kernel_rfl) (by kernel_rfl) (by kernel_rfl) (by rfl) ?_ hH ?_
                rotate_left
                · intro W hW; (try dsimp only at hW); go_simp <;> with_reducible rfl
                simp only [Act.put, List.setIfInBounds_toArray, List.set_cons_zero, List.set_cons_succ]
                refine wpAnyH_done (by kernel_rfl) ?_ _
                refine NoPanic.normal ?_
                go_wp2_with fail
                obtain ⟨_, _, hB8⟩ := hH
                refine wp_region_noPanic ?_
                refine wp_region_held_drew (S := fun W' => W'.cell? ⟨b, off + k * 6, none⟩ = some (.int .i64 tx) ∧ W'.cell? ⟨b, off + k * 6 + 1, none⟩ = some (.int .i64 kd) ∧ W'.cell? ⟨b, off + k * 6 + 1 + 1, none⟩ = some (.int .i64 p) ∧ W'.cell? ⟨b, off + k * 6 + 1 + 2, none⟩ = some (.int .i64 q) ∧ W'.cell? ⟨b, off + k * 6 + 1 + 3, none⟩ = some (.int .i64 v) ∧ W'.cell? ⟨b, off + j * 6, none⟩ = some (.int .i64 ltx) ∧ W'.cell? ⟨b, off + j * 6 + 1, none⟩ = some (.int .i64 lk) ∧ W'.cell? ⟨b, off + j * 6 + 1 + 1, none⟩ = some (.int .i64 la) ∧ W'.cell? ⟨b, off + j * 6 + 1 + 2, none⟩ = some (.int .i64 lb) ∧ W'.cell? ⟨b, off + j * 6 + 1 + 3, none⟩ = some (.int .i64 lv) ∧ Below wx.heap.size wx W') (by kernel_rfl) (⟨hc0, hc1, hc2, hc3, hc4, hd0, hd1, hd2, hd3, hd4, hB8.drew⟩) (fun hH => ?_)
                refine hTake (i := 0) (v := ?_) rfl (by kernel_rfl) (by kernel_rfl) (by kernel_rfl) (by rfl) ?_ hH ?_
                rotate_left
                · intro W hW; (try dsimp only at hW); go_simp <;> with_reducible rfl
                simp only [Act.put, List.setIfInBounds_toArray, List.set_cons_zero, List.set_cons_succ]
                refine hTake (i := 1) (v := ?_) rfl (by kernel_rfl) (by kernel_rfl) (by kernel_rfl) (by rfl) ?_ hH ?_
                rotate_left
                · intro W hW; (try dsimp only at hW); go_simp <;> with_reducible rfl
                simp only [Act.put, List.setIfInBounds_toArray, List.set_cons_zero, List.set_cons_succ]
                refine hTake (i := 2) (v := ?_) rfl (by kernel_rfl) (by kernel_rfl) (by kernel_rfl) (by rfl) ?_ hH ?_
                rotate_left
                · intro W hW; (try dsimp only at hW); go_simp <;> with_reducible rfl
                simp only [Act.put, List.setIfInBounds_toArray, List.set_cons_zero, List.set_cons_succ]
                refine hTake (i := 3) (v := ?_) rfl (by kernel_rfl) (by kernel_rfl) (by kernel_rfl) (by rfl) ?_ hH ?_
                rotate_left
                · intro W hW; (try dsimp only at hW); go_simp <;> with_reducible rfl
                simp only [Act.put, List.setIfInBounds_toArray, List.set_cons_zero, List.set_cons_succ]
                refine hTake (i := 4) (v := ?_) rfl (by kernel_rfl) (by kernel_rfl) (by kernel_rfl) (by rfl) ?_ hH ?_
                rotate_left
                · intro W hW; (try dsimp only at hW); go_simp <;> with_reducible rfl
                simp only [Act.put, List.setIfInBounds_toArray, List.set_cons_zero, List.set_cons_succ]
                refine wpAnyH_ready (rs := [5]) (by kernel_rfl) (by simp) ?_
                refine AllReadyH.cons rfl (fun K hK => ?_) AllReadyH.nil
                go_simp
                refine (IW _).mono ?_
                rintro e w4 ⟨rfl, b4⟩
                go_wp2_with fail
                refine hK.out _ _ ?_ (fun hH => ?_)
                · exact ⟨keep_cell b4 hH.1, keep_cell b4 hH.2.1, keep_cell b4 hH.2.2.1, keep_cell b4 hH.2.2.2.1, keep_cell b4 hH.2.2.2.2.1, keep_cell b4 hH.2.2.2.2.2.1, keep_cell b4 hH.2.2.2.2.2.2.1, keep_cell b4 hH.2.2.2.2.2.2.2.1, keep_cell b4 hH.2.2.2.2.2.2.2.2.1, keep_cell b4 hH.2.2.2.2.2.2.2.2.2.1, hH.2.2.2.2.2.2.2.2.2.2.trans (b4.mono hH.2.2.2.2.2.2.2.2.2.2.size)⟩
                clear hK K
                refine hTake (i := 6) (v := ?_) rfl (by kernel_rfl) (by kernel_rfl) (by kernel_rfl) (by rfl) ?_ hH ?_
                rotate_left
                · intro W hW; (try dsimp only at hW); go_simp <;> with_reducible rfl
                simp only [Act.put, List.setIfInBounds_toArray, List.set_cons_zero, List.set_cons_succ]
                refine hSkip (i := 7) rfl (by kernel_rfl) (by kernel_rfl) (by kernel_rfl) (by rfl) hH ?_
                simp only [Act.put, List.setIfInBounds_toArray, List.set_cons_zero, List.set_cons_succ]
                refine hSkip (i := 8) rfl (by kernel_rfl) (by kernel_rfl) (by kernel_rfl) (by rfl) hH ?_
                simp only [Act.put, List.setIfInBounds_toArray, List.set_cons_zero, List.set_cons_succ]
                refine hSkip (i := 9) rfl (by kernel_rfl) (by kernel_rfl) (by kernel_rfl) (by rfl) hH ?_
                simp only [Act.put, List.setIfInBounds_toArray, List.set_cons_zero, List.set_cons_succ]
                refine hSkip (i := 10) rfl (by kernel_rfl) (by kernel_rfl) (by kernel_rfl) (by rfl) hH ?_
                simp only [Act.put, List.setIfInBounds_toArray, List.set_cons_zero, List.set_cons_succ]
                refine hSkip (i := 11) rfl (by kernel_rfl) (by kernel_rfl) (by kernel_rfl) (by rfl) hH ?_
                simp only [Act.put, List.setIfInBounds_toArray, List.set_cons_zero, List.set_cons_succ]
                refine hSkip (i := 12) rfl (by kernel_rfl) (by kernel_rfl) (by kernel_rfl) (by rfl) hH ?_
                simp only [Act.put, List.setIfInBounds_toArray, List.set_cons_zero, List.set_cons_succ]
                refine hSkip (i := 13) rfl (by kernel_rfl) (by kernel_rfl) (by kernel_rfl) (by rfl) hH ?_
                simp only [Act.put, List.setIfInBounds_toArray, List.set_cons_zero, List.set_cons_succ]
                refine hSkip (i := 14) rfl (by kernel_rfl) (by kernel_rfl) (by kernel_rfl) (by rfl) hH ?_
                simp only [Act.put, List.setIfInBounds_toArray, List.set_cons_zero, List.set_cons_succ]
                refine hSkip (i := 15) rfl (by kernel_rfl) (by kernel_rfl) (by kernel_rfl) (by rfl) hH ?_
                simp only [Act.put, List.setIfInBounds_toArray, List.set_cons_zero, List.set_cons_succ]
                refine hSkip (i := 16) rfl (by kernel_rfl) (by kernel_rfl) (by kernel_rfl) (by rfl) hH ?_
                simp only [Act.put, List.setIfInBounds_toArray, List.set_cons_zero, List.set_cons_succ]
                refine hSkip (i := 17) rfl (by kernel_rfl) (by kernel_rfl) (by kernel_rfl) (by rfl) hH ?_
                simp only [Act.put, List.setIfInBounds_toArray, List.set_cons_zero, List.set_cons_succ]
                refine hSkip (i := 18) rfl (by kernel_rfl) (by kernel_rfl) (by kernel_rfl) (by rfl) hH ?_
                simp only [Act.put, List.setIfInBounds_toArray, List.set_cons_zero, List.set_cons_succ]
                refine hTake (i := 19) (v := ?_) rfl (by kernel_rfl) (by kernel_rfl) (by kernel_rfl) (by rfl) ?_ hH ?_
                rotate_left
                · intro W hW; (try dsimp only at hW); go_simp <;> with_reducible rfl
                simp only [Act.put, List.setIfInBounds_toArray, List.set_cons_zero, List.set_cons_succ]
                refine wpAnyH_done (by kernel_rfl) ?_ _
                refine NoPanic.normal ?_
                obtain ⟨_, _, _, _, _, _, _, _, _, _, hB12⟩ := hH
                go_wp2
                go_roundw
                case rel => exact ⟨false, j + 1, by omega, by omega, rfl, by go_num, hid (fun h => by cases h), hid (fun _ => HQ.out), hBx.trans (hB12.mono hBx.size)⟩
                case measure => simp [intOf]; omega
        · obtain rfl : j = n := by omega
          have HR : Hid (Ch.strict (ts.drop (k + 1)) = S) := HT.out (by
            cases o with
            | true => exact HO.out rfl
            | false => rw [HJ.out rfl, List.drop_of_length_le (show ts.length ≤ j by have := HL.out; omega)]; rfl)
          go_wp2
          go_roundw
          case rel => exact ⟨k + 1, by omega, by go_num, HR, hBx⟩
          case measure => simp [intOf]; omega
    · obtain rfl : k = n := by omega
      have HQ : Hid (true = S) := by have h1 := HI.out; have h2 := HL.out; rw [h2, List.drop_length] at h1; exact h1
      go_wp2
      go_ret
      exact ⟨ret_boolA HQ.out, hB⟩

set_option maxHeartbeats 1000000 in
theorem specStrict_any (a : Option Addr) (n cap : Nat) (ts : List Ch.Ac) (w : World) (h : AcAt w a n ts) (hn : n ≤ 1048576) :
    Calls Try.prog 23 #[.slice a n cap] w fun e w' => e = .returned (.bool (Ch.strictR ts)) ∧ Below w.heap.size w w' := by
  have IA := fun W hW => specActs_any a n cap ts W hW hn
  by_cases h0 : Ch.acsF ts = 0
  · rw [Ch.strictR_ok h0]
    have IB := fun W hW => l14Strict_any a n cap ts W hW hn h0
    rw [h0] at IA
    generalize Ch.strict ts = S at *
    clear h0
    go_enter Try.func23, Try.ntmps23
    go_wp2_with fail
    refine (IA _ h).mono ?_
    rintro e w1 ⟨rfl, b1⟩
    go_wp2_with fail
    refine (IB _ (h.below b1)).mono ?_
    rintro e w2 ⟨rfl, b2⟩
    go_wp2
    go_ret
    exact ⟨rfl, b1.trans (b2.mono b1.size)⟩
  · have h0' : (Ch.acsF ts == 0) = false := by simpa using h0
    rw [Ch.strictR_bad (by simpa using h0)]
    generalize Ch.acsF ts = c at *
    clear h0
    go_enter Try.func23, Try.ntmps23
    go_wp2_with fail
    refine (IA _ h).mono ?_
    rintro e w1 ⟨rfl, b1⟩
    go_wp2
    go_ret
    exact ⟨rfl, b1⟩
end Go.Proofs.Ytlpncikiaojmiaa
