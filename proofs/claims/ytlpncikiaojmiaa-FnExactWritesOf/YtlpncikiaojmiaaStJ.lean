/- StrictActs of the program. -/
import Derived.Test.YtlpncikiaojmiaaStI
import Derived.Test.YtlpncikiaojmiaaAcF
namespace Go.Proofs.Ytlpncikiaojmiaa
open Go.RowKit

theorem ret_boolA {a b : Bool} (h : a = b) : Ending.returned (.bool a) = .returned (.bool b) := by rw [h]
theorem ForbF.below {w w' : World} {f : Ch.Ac} {fv : Value} (h : ForbF w f fv) (hb : Below w.heap.size w w') : ForbF w' f fv := by
  rcases h with ⟨B, h1, h2, h3⟩ | ⟨B, h1, h2, h3⟩ | h
  · exact .inl ⟨B, h1, h2.below hb, h3⟩
  · exact .inr (.inl ⟨B, h1, h2.below hb, h3⟩)
  · exact .inr (.inr h)

set_option maxHeartbeats 4000000 in
theorem implStrict_ok (a : Option Addr) (n cap : Nat) (ts : List Ch.Ac) (w : World) (h : AcAt w a n ts) (hn : n ≤ 1048576) (hcap : n ≤ cap) (hcm : cap ≤ 9223372036854775807) (hF : Ch.acsF ts = 0) :
    Calls Try.prog 24 #[.slice a n cap] w fun e w' => e = .returned (.bool (Ch.strict ts)) ∧ Below w.heap.size w w' := by
  have HL := h.len
  obtain ⟨S, HS⟩ : ∃ S, Hid (Ch.strict ts = S) := ⟨_, rfl⟩
  rw [HS.out]
  go_enter Try.func24, Try.ntmps24
  go_wp2
  go_step3
  go_wp2_with fail
  refine (implActs_any a n cap ts _ h hn).mono ?_
  rintro e w1 ⟨rfl, b1⟩
  rw [hF]
  have h1 := h.below b1
  go_wp2
  go_step3
  go_wp2
  go_loopw [3, 14] (fun st i wr => ∃ k : Nat, k ≤ n ∧ st = .bool true ∧ i = .int .i64 k ∧ Hid (Ch.strict (ts.drop k) = S) ∧ Below w.heap.size w wr) (fun _ i _ => n - (intOf i).toNat)
  case atStart => exact ⟨0, Nat.zero_le _, rfl, rfl, (by show _ = _; rw [List.drop_zero]; exact HS.out), b1⟩
  case round =>
    obtain ⟨k, hk, rfl, rfl, HI, hB⟩ := hrel
    by_cases hlt : k < n
    · have hkl : Hid (k < ts.length) := by show _ < _; have := HL.out; omega
      obtain ⟨b, off, ai, ni, ci, rfl, hc0, hc1, hc2, hc3, hc4, hc5, _, _⟩ := (h.below hB).act hlt
      have HF : Hid (Ch.rowOk (Ch.acAt ts k) (ts.drop (k + 1)) = false → S = false) := fun h => (HI.out.symm.trans (Ch.strict_no hkl.out h))
      have HT : Hid (Ch.rowOk (Ch.acAt ts k) (ts.drop (k + 1)) = true → Ch.strict (ts.drop (k + 1)) = S) := fun h => ((Ch.strict_on hkl.out h).symm.trans HI.out)
      generalize Ch.acAt ts k = f at *
      obtain ⟨tx, kd, p, q, v, an⟩ := f
      simp only at hc0 hc1 hc2 hc3 hc4
      have hbl := lt_of_cell hc0
      go_wp2_with fail
      refine (forbidden_any tx kd p q v _ an _).mono ?_
      rintro e w2 ⟨fv, rfl, hfv, b2⟩
      have hB2 : Below w.heap.size w w2 := hB.trans ((below_box b2).mono hB.size)
      have x0 := box_cell b2 0
      simp at x0
      have hb2 := lt_of_cell x0
      clear b2 hc0 hc1 hc2 hc3 hc4 hc5
      by_cases hk1 : k + 1 < n
      · have hcl : k + 1 < cap := by omega
        have HA : Hid (AcAt w (some ⟨b, off, none⟩) n ts) := h
        have HB2 := hid hB2
        clear h1 hB HI h
        go_wp2
        go_loopw [3, 26] (fun st i wx => ∃ j : Nat, j ≤ n - (k + 1) ∧ st = .bool true ∧ i = .int .i64 j ∧ Hid (Ch.rowOk ⟨tx, kd, p, q, v, an⟩ (ts.drop (k + 1)) = Ch.rowOk ⟨tx, kd, p, q, v, an⟩ (ts.drop (k + 1 + j))) ∧ Below w2.heap.size w2 wx) (fun _ i _ => n - (intOf i).toNat)
        case atStart => exact ⟨0, Nat.zero_le _, rfl, rfl, rfl, Below.refl _ _⟩
        case round =>
          obtain ⟨j, hj, rfl, rfl, HJ, hBx⟩ := hrel
          generalize hwx : wr = wx at *
          clear hwx
          have hBB : Below w.heap.size w wx := HB2.out.trans (hBx.mono HB2.out.size)
          by_cases hjl : j < n - (k + 1)
          · obtain ⟨b', off', ai', ni', ci', hab, hd0, hd1, hd2, hd3, hd4, hd5, _, _⟩ := (HA.out.below hBB).act (k := k + 1 + j) (by omega)
            simp only [Option.some.injEq, Addr.mk.injEq, and_true] at hab
            obtain ⟨rfl, rfl⟩ := hab
            rw [show off + (k + 1 + j) * 6 = off + (k + 1) * 6 + j * 6 by omega] at hd0 hd1 hd2 hd3 hd4 hd5
            have HD := hid (Ch.dropA (ts := ts) (k := k + 1 + j) (by have := HL.out; omega))
            generalize Ch.acAt ts (k + 1 + j) = l at *
            obtain ⟨ltx, lk, la, lb, lv, lan⟩ := l
            simp only at hd0 hd1 hd2 hd3 hd4
            have y0 := keep_cell hBx x0
            have hbx := lt_of_cell y0
            have hbd := lt_of_cell hd0
            have HFx := hfv.below hBx
            have HR : Hid (Ch.rowOk ⟨tx, kd, p, q, v, an⟩ (ts.drop (k + 1)) = Ch.rowOk ⟨tx, kd, p, q, v, an⟩ (⟨ltx, lk, la, lb, lv, lan⟩ :: ts.drop (k + 1 + j + 1))) := by
              show _ = _
              rw [HJ.out, HD.out]
            clear HJ HD
            obtain ⟨Z, HZ⟩ : ∃ Z, Hid (Ch.forbid ⟨tx, kd, p, q, v, an⟩ ⟨ltx, lk, la, lb, lv, lan⟩ = Z) := ⟨_, rfl⟩
            have HY : Hid (Z = true → S = false) := fun hz => HF.out (by rw [HR.out]; exact Ch.row_yes (HZ.out.trans hz))
            have HO : Hid (Z = false → (ltx == tx && Ch.isE lk) = true → Ch.strict (ts.drop (k + 1)) = S) := fun hz he => HT.out (by rw [HR.out]; exact Ch.row_over (HZ.out.trans hz) he)
            have HN : Hid (Z = false → (ltx == tx && Ch.isE lk) = false → Ch.rowOk ⟨tx, kd, p, q, v, an⟩ (ts.drop (k + 1)) = Ch.rowOk ⟨tx, kd, p, q, v, an⟩ (ts.drop (k + 1 + (j + 1)))) := fun hz he => by rw [HR.out]; exact Ch.row_on (HZ.out.trans hz) he
            clear HR
            rcases HFx with ⟨B, rfl, h2, h3⟩ | ⟨B, rfl, h2, h3, h4⟩ | ⟨rfl, h3, h4⟩
            · have IC := fun W (hW : Below wx.heap.size wx W) => forb1_any _ B ltx lk la lb lv (.slice ai' ni' ci') W (h2.below hW) lan h3
              rw [HZ.out] at IC
              clear HZ h2 h3 hfv
              go_wp2_with fail
              refine (IC _ ((Below.refl _ _).alloc (Nat.le_refl _) _)).mono ?_
              rintro e w3 ⟨rfl, b3⟩
              have hBc : Below w2.heap.size w2 w3 := hBx.trans ((below_box b3).mono hBx.size)
              have hBBc : Below w.heap.size w w3 := hBB.trans ((below_box b3).mono hBB.size)
              have z0 := box_cell b3 0
              have z1 := box_cell b3 1
              simp at z0 z1
              have y0' := keep_cell hBc x0
              have hbz := lt_of_cell z0
              have hbz' := lt_of_cell y0'
              clear IC b3 hd0 hd1 hd2 hd3 hd4 hd5 y0
              cases Z with
              | true =>
                have HZ := hid (HY.out rfl)
                clear HY HO HN
                go_wp2
                rw [Exit.noGoto_ret]
                go_ret
                exact ⟨ret_boolA HZ.out.symm, hBBc⟩
              | false =>
                by_cases he : (ltx == tx) = true
                · cases hE : Ch.isE lk with
                  | true =>
                    have HZ := hid (HO.out rfl (by rw [he, hE]; rfl))
                    clear HY HO HN
                    go_wp2_with (go_at_call 52; refine (isEnd_any _ _).mono ?_; rintro e w' ⟨rfl, rfl⟩; rw [hE])
                    go_roundw
                    case rel => exact ⟨k + 1, by omega, rfl, by go_num, HZ, hBBc⟩
                    case measure => simp [intOf]; omega
                  | false =>
                    have HZ := hid (HN.out rfl (by rw [he, hE]; rfl))
                    clear HY HO HN
                    go_wp2_with (go_at_call 52; refine (isEnd_any _ _).mono ?_; rintro e w' ⟨rfl, rfl⟩; rw [hE])
                    go_roundw
                    case rel => exact ⟨j + 1, by omega, rfl, by go_num, HZ, hBc⟩
                    case measure => simp [intOf]; omega
                · have he' : (ltx == tx) = false := by simpa using he
                  have HZ := hid (HN.out rfl (by rw [he']; rfl))
                  clear HY HO HN he
                  go_wp2
                  go_roundw
                  case rel => exact ⟨j + 1, by omega, rfl, by go_num, HZ, hBc⟩
                  case measure => simp [intOf]; omega
            · have IC := fun W (hW : Below wx.heap.size wx W) => forb2_any _ B ltx lk la lb lv (.slice ai' ni' ci') W (h2.below hW) lan h3 h4
              rw [HZ.out] at IC
              clear HZ h2 h3 h4 hfv
              go_wp2_with fail
              refine (IC _ ((Below.refl _ _).alloc (Nat.le_refl _) _)).mono ?_
              rintro e w3 ⟨rfl, b3⟩
              have hBc : Below w2.heap.size w2 w3 := hBx.trans ((below_box b3).mono hBx.size)
              have hBBc : Below w.heap.size w w3 := hBB.trans ((below_box b3).mono hBB.size)
              have z0 := box_cell b3 0
              have z1 := box_cell b3 1
              simp at z0 z1
              have y0' := keep_cell hBc x0
              have hbz := lt_of_cell z0
              have hbz' := lt_of_cell y0'
              clear IC b3 hd0 hd1 hd2 hd3 hd4 hd5 y0
              cases Z with
              | true =>
                have HZ := hid (HY.out rfl)
                clear HY HO HN
                go_wp2
                rw [Exit.noGoto_ret]
                go_ret
                exact ⟨ret_boolA HZ.out.symm, hBBc⟩
              | false =>
                by_cases he : (ltx == tx) = true
                · cases hE : Ch.isE lk with
                  | true =>
                    have HZ := hid (HO.out rfl (by rw [he, hE]; rfl))
                    clear HY HO HN
                    go_wp2_with (go_at_call 52; refine (isEnd_any _ _).mono ?_; rintro e w' ⟨rfl, rfl⟩; rw [hE])
                    go_roundw
                    case rel => exact ⟨k + 1, by omega, rfl, by go_num, HZ, hBBc⟩
                    case measure => simp [intOf]; omega
                  | false =>
                    have HZ := hid (HN.out rfl (by rw [he, hE]; rfl))
                    clear HY HO HN
                    go_wp2_with (go_at_call 52; refine (isEnd_any _ _).mono ?_; rintro e w' ⟨rfl, rfl⟩; rw [hE])
                    go_roundw
                    case rel => exact ⟨j + 1, by omega, rfl, by go_num, HZ, hBc⟩
                    case measure => simp [intOf]; omega
                · have he' : (ltx == tx) = false := by simpa using he
                  have HZ := hid (HN.out rfl (by rw [he']; rfl))
                  clear HY HO HN he
                  go_wp2
                  go_roundw
                  case rel => exact ⟨j + 1, by omega, rfl, by go_num, HZ, hBc⟩
                  case measure => simp [intOf]; omega
            · have IC := fun W (hW : Below wx.heap.size wx W) => forb3_any _ ltx lk la lb lv (.slice ai' ni' ci') W lan h3 h4
              rw [HZ.out] at IC
              clear HZ h3 h4 hfv
              go_wp2_with fail
              refine (IC _ ((Below.refl _ _).alloc (Nat.le_refl _) _)).mono ?_
              rintro e w3 ⟨rfl, b3⟩
              have hBc : Below w2.heap.size w2 w3 := hBx.trans ((below_box b3).mono hBx.size)
              have hBBc : Below w.heap.size w w3 := hBB.trans ((below_box b3).mono hBB.size)
              have z0 := box_cell b3 0
              have z1 := box_cell b3 1
              simp at z0 z1
              have y0' := keep_cell hBc x0
              have hbz := lt_of_cell z0
              have hbz' := lt_of_cell y0'
              clear IC b3 hd0 hd1 hd2 hd3 hd4 hd5 y0
              cases Z with
              | true =>
                have HZ := hid (HY.out rfl)
                clear HY HO HN
                go_wp2
                rw [Exit.noGoto_ret]
                go_ret
                exact ⟨ret_boolA HZ.out.symm, hBBc⟩
              | false =>
                by_cases he : (ltx == tx) = true
                · cases hE : Ch.isE lk with
                  | true =>
                    have HZ := hid (HO.out rfl (by rw [he, hE]; rfl))
                    clear HY HO HN
                    go_wp2_with (go_at_call 52; refine (isEnd_any _ _).mono ?_; rintro e w' ⟨rfl, rfl⟩; rw [hE])
                    go_roundw
                    case rel => exact ⟨k + 1, by omega, rfl, by go_num, HZ, hBBc⟩
                    case measure => simp [intOf]; omega
                  | false =>
                    have HZ := hid (HN.out rfl (by rw [he, hE]; rfl))
                    clear HY HO HN
                    go_wp2_with (go_at_call 52; refine (isEnd_any _ _).mono ?_; rintro e w' ⟨rfl, rfl⟩; rw [hE])
                    go_roundw
                    case rel => exact ⟨j + 1, by omega, rfl, by go_num, HZ, hBc⟩
                    case measure => simp [intOf]; omega
                · have he' : (ltx == tx) = false := by simpa using he
                  have HZ := hid (HN.out rfl (by rw [he']; rfl))
                  clear HY HO HN he
                  go_wp2
                  go_roundw
                  case rel => exact ⟨j + 1, by omega, rfl, by go_num, HZ, hBc⟩
                  case measure => simp [intOf]; omega
          · obtain rfl : j = n - (k + 1) := by omega
            have HR : Hid (Ch.strict (ts.drop (k + 1)) = S) := HT.out (by
              have h1 := HJ.out
              rw [List.drop_of_length_le (show ts.length ≤ k + 1 + (n - (k + 1)) by have := HL.out; omega)] at h1
              exact h1)
            go_wp2
            go_roundw
            case rel => exact ⟨k + 1, by omega, rfl, by go_num, HR, hBB⟩
            case measure => simp [intOf]; omega
      · have hk1' : k + 1 = n := by omega
        have HR : Hid (Ch.strict (ts.drop (k + 1)) = S) := HT.out (by rw [List.drop_of_length_le (show ts.length ≤ k + 1 by have := HL.out; omega)]; rfl)
        clear h1 HI h hfv
        by_cases hcc : k + 1 < cap
        · go_wp2
          go_loopw [3, 26] (fun st i wx => st = .bool true ∧ i = .int .i64 0 ∧ Below w.heap.size w wx) (fun _ i _ => n - (intOf i).toNat)
          case atStart => exact ⟨rfl, rfl, hB2⟩
          case round =>
            obtain ⟨rfl, rfl, hB3⟩ := hrel
            go_wp2
            go_roundw
            case rel => exact ⟨k + 1, by omega, rfl, by go_num, HR, hB3⟩
            case measure => simp [intOf]; omega
        · obtain rfl : cap = n := by omega
          clear hcc hcap
          go_wp2
          go_loopw [3, 26] (fun st i wx => st = .bool true ∧ i = .int .i64 0 ∧ Below w.heap.size w wx) (fun _ i _ => cap - (intOf i).toNat)
          case atStart => exact ⟨rfl, rfl, hB2⟩
          case round =>
            obtain ⟨rfl, rfl, hB3⟩ := hrel
            go_wp2
            go_roundw
            case rel => exact ⟨k + 1, by omega, rfl, by go_num, HR, hB3⟩
            case measure => simp [intOf]; omega
    · obtain rfl : k = n := by omega
      have HZ : Hid (true = S) := by have h1 := HI.out; have h2 := HL.out; rw [h2, List.drop_length] at h1; exact h1
      go_wp2
      rw [Exit.noGoto_ret]
      go_ret
      exact ⟨ret_boolA HZ.out, hB⟩

set_option maxHeartbeats 1000000 in
theorem implStrict_any (a : Option Addr) (n cap : Nat) (ts : List Ch.Ac) (w : World) (h : AcAt w a n ts) (hn : n ≤ 1048576) (hcap : n ≤ cap) (hcm : cap ≤ 9223372036854775807) :
    Calls Try.prog 24 #[.slice a n cap] w fun e w' => e = .returned (.bool (Ch.strictR ts)) ∧ Below w.heap.size w w' := by
  by_cases h0 : Ch.acsF ts = 0
  · rw [Ch.strictR_ok h0]
    exact implStrict_ok a n cap ts w h hn hcap hcm h0
  · have h0' : (Ch.acsF ts != 0) = true := by simpa using h0
    rw [Ch.strictR_bad h0']
    have IA := fun W hW => implActs_any a n cap ts W hW hn
    generalize Ch.acsF ts = c at *
    clear h0
    go_enter Try.func24, Try.ntmps24
    go_wp2
    go_step3
    go_wp2_with fail
    refine (IA _ h).mono ?_
    rintro e w1 ⟨rfl, b1⟩
    go_wp2
    rw [Exit.noGoto_ret]
    go_ret
    exact ⟨rfl, b1⟩
end Go.Proofs.Ytlpncikiaojmiaa
