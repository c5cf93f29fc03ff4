/- Several texts in one: StI, StJ, StS, StL. -/
import Derived.Test.YtlpncikiaojmiaaMz4
import Derived.Test.YtlpncikiaojmiaaHTk
import Derived.Test.YtlpncikiaojmiaaMz6

/- What must not come behind an act: the program's closures. -/
namespace Go.Proofs.Ytlpncikiaojmiaa
open Go.RowKit

/-- The box of an act, its Answer not asked. -/
def AcBox (w : World) (B : Nat) (t : Ch.Ac) : Prop :=
  w.cell? ⟨B, 0, none⟩ = some (.int .i64 t.tx) ∧ w.cell? ⟨B, 1, none⟩ = some (.int .i64 t.k) ∧ w.cell? ⟨B, 2, none⟩ = some (.int .i64 t.a)
theorem AcBox.below {w w' : World} {B : Nat} {t : Ch.Ac} (h : AcBox w B t) (hb : Below w.heap.size w w') : AcBox w' B t := ⟨keep_cell hb h.1, keep_cell hb h.2.1, keep_cell hb h.2.2⟩

set_option maxHeartbeats 800000 in
theorem forb1_any (f : Ch.Ac) (B : Nat) (tx k a b v : Int) (an : Value) (w : World) (h : AcBox w B f) (zs : List Int) (hw : Ch.isW f.k = true) :
    Calls Try.prog 75 #[.agg #[.int .i64 tx, .int .i64 k, .int .i64 a, .int .i64 b, .int .i64 v, an], .pointer (some ⟨B, 0, none⟩)] w fun e w' => e = .returned (.bool (Ch.forbid f ⟨tx, k, a, b, v, zs⟩)) ∧ Below w.heap.size w w' := by
  rw [Ch.forbid_w hw]
  obtain ⟨c0, c1, c2⟩ := h
  obtain ⟨ftx, fk, fa, fb, fv, fan⟩ := f
  simp only at c0 c1 c2 hw ⊢
  have ht := fun W => implTouches_any k a b v fa W
  generalize Ch.touches k a b v fa = T at *
  have hbl := lt_of_cell c0
  have hbl2 := lt_of_cell c2
  clear hw c1
  by_cases h0 : (tx != ftx) = true
  · go_enter Try.func75, Try.ntmps75
    go_wp2_with (go_at_call 27; refine (ht _).mono ?_; rintro e w1 ⟨rfl, b1⟩)
    go_ret
    exact ⟨by simp [h0], below_box b1⟩
  · have h0' : (tx != ftx) = false := by simpa using h0
    clear h0
    go_enter Try.func75, Try.ntmps75
    go_wp2
    go_ret
    exact ⟨by simp [h0'], (Below.refl _ _).alloc (Nat.le_refl _) _⟩

set_option maxHeartbeats 800000 in
theorem forb2_any (f : Ch.Ac) (B : Nat) (tx k a b v : Int) (an : Value) (w : World) (h : AcBox w B f) (zs : List Int) (hw : Ch.isW f.k = false) (he : Ch.isE f.k = true) :
    Calls Try.prog 76 #[.agg #[.int .i64 tx, .int .i64 k, .int .i64 a, .int .i64 b, .int .i64 v, an], .pointer (some ⟨B, 0, none⟩)] w fun e w' => e = .returned (.bool (Ch.forbid f ⟨tx, k, a, b, v, zs⟩)) ∧ Below w.heap.size w w' := by
  rw [Ch.forbid_e hw he]
  obtain ⟨c0, c1, c2⟩ := h
  obtain ⟨ftx, fk, fa, fb, fv, fan⟩ := f
  simp only at c0 c1 c2 hw he ⊢
  have hbl := lt_of_cell c0
  clear hw he c1 c2
  go_enter Try.func76, Try.ntmps76
  go_wp2
  go_ret
  exact ⟨rfl, (Below.refl _ _).alloc (Nat.le_refl _) _⟩

theorem forb3_any (f : Ch.Ac) (tx k a b v : Int) (an : Value) (w : World) (zs : List Int) (hw : Ch.isW f.k = false) (he : Ch.isE f.k = false) :
    Calls Try.prog 77 #[.agg #[.int .i64 tx, .int .i64 k, .int .i64 a, .int .i64 b, .int .i64 v, an]] w fun e w' => e = .returned (.bool (Ch.forbid f ⟨tx, k, a, b, v, zs⟩)) ∧ Below w.heap.size w w' := by
  rw [Ch.forbid_n hw he]
  go_enter Try.func77, Try.ntmps77
  go_wp2
  go_ret
  exact ⟨rfl, (Below.refl _ _).alloc (Nat.le_refl _) _⟩

/-- The function value that tells what must not come behind an act. -/
def ForbF (w : World) (f : Ch.Ac) (fv : Value) : Prop :=
  (∃ B, fv = .func (.func 75) #[] #[.pointer (some ⟨B, 0, none⟩)] ∧ AcBox w B f ∧ Ch.isW f.k = true) ∨
  (∃ B, fv = .func (.func 76) #[] #[.pointer (some ⟨B, 0, none⟩)] ∧ AcBox w B f ∧ Ch.isW f.k = false ∧ Ch.isE f.k = true) ∨
  (fv = .func (.func 77) #[] #[] ∧ Ch.isW f.k = false ∧ Ch.isE f.k = false)

set_option maxHeartbeats 800000 in
theorem forbidden_any (tx k a b v : Int) (an : Value) (zs : List Int) (w : World) :
    Calls Try.prog 51 #[.agg #[.int .i64 tx, .int .i64 k, .int .i64 a, .int .i64 b, .int .i64 v, an]] w fun e w' => ∃ fv, e = .returned fv ∧ ForbF w' ⟨tx, k, a, b, v, zs⟩ fv ∧ Below w.heap.size w w' := by
  have hmf : ∀ (fn : Fn) (first cap : Array Value) (w : World), (Instr.makeFunc fn first cap).run Try.prog w = .ok (.func fn first cap) w := fun _ _ _ _ => rfl
  have hb : Below w.heap.size w (w.alloc (.cells #[.int .i64 tx, .int .i64 k, .int .i64 a, .int .i64 b, .int .i64 v, an] 68)) := (Below.refl _ _).alloc (Nat.le_refl _) _
  have hx : AcBox (w.alloc (.cells #[.int .i64 tx, .int .i64 k, .int .i64 a, .int .i64 b, .int .i64 v, an] 68)) w.heap.size ⟨tx, k, a, b, v, zs⟩ := by
    refine ⟨?_, ?_, ?_⟩ <;> simp [go_sem]
  cases hw : Ch.isW k with
  | true =>
    go_enter Try.func51, Try.ntmps51
    go_wp2_with (go_at_call 61; refine (isWrite_any _ _).mono ?_; rintro e w1 ⟨rfl, rfl⟩; rw [hw])
    go_ret
    exact ⟨_, rfl, .inl ⟨_, rfl, hx, hw⟩, hb⟩
  | false =>
    cases he : Ch.isE k with
    | true =>
      go_enter Try.func51, Try.ntmps51
      go_wp2_with (first | (go_at_call 61; refine (isWrite_any _ _).mono ?_; rintro e w1 ⟨rfl, rfl⟩; rw [hw]) | (go_at_call 52; refine (isEnd_any _ _).mono ?_; rintro e w1 ⟨rfl, rfl⟩; rw [he]))
      go_ret
      exact ⟨_, rfl, .inr (.inl ⟨_, rfl, hx, hw, he⟩), hb⟩
    | false =>
      go_enter Try.func51, Try.ntmps51
      go_wp2_with (first | (go_at_call 61; refine (isWrite_any _ _).mono ?_; rintro e w1 ⟨rfl, rfl⟩; rw [hw]) | (go_at_call 52; refine (isEnd_any _ _).mono ?_; rintro e w1 ⟨rfl, rfl⟩; rw [he]))
      go_ret
      exact ⟨_, rfl, .inr (.inr ⟨rfl, hw, he⟩), hb⟩
end Go.Proofs.Ytlpncikiaojmiaa

/- StrictActs of the program. -/
namespace Go.Proofs.Ytlpncikiaojmiaa
open Go.RowKit

theorem ret_boolA {a b : Bool} (h : a = b) : Ending.returned (.bool a) = .returned (.bool b) := by rw [h]
theorem ForbF.below {w w' : World} {f : Ch.Ac} {fv : Value} (h : ForbF w f fv) (hb : Below w.heap.size w w') : ForbF w' f fv := by
  rcases h with ⟨B, h1, h2, h3⟩ | ⟨B, h1, h2, h3⟩ | h
  · exact .inl ⟨B, h1, h2.below hb, h3⟩
  · exact .inr (.inl ⟨B, h1, h2.below hb, h3⟩)
  · exact .inr (.inr h)

set_option maxHeartbeats 4000000 in
theorem implStrict_ok (a : Option Addr) (n cap : Nat) (ts : List Ch.Ac) (w : World) (h : AcAt w a n ts) (hn : n ≤ 1048576) (hcap : n ≤ cap) (hcm : cap ≤ 9223372036854775807) (hF : Ch.acsF ts = 0) :
    Calls Try.prog 24 #[.slice a n cap] w fun e w' => e = .returned (.bool (Ch.strict ts)) ∧ Below w.heap.size w w' := by
  have HL := h.len
  obtain ⟨S, HS⟩ : ∃ S, Hid (Ch.strict ts = S) := ⟨_, rfl⟩
  rw [HS.out]
  go_enter Try.func24, Try.ntmps24
  go_wp2
  go_step3
  go_wp2_with fail
  refine (implActs_any a n cap ts _ h hn).mono ?_
  rintro e w1 ⟨rfl, b1⟩
  rw [hF]
  have h1 := h.below b1
  go_wp2
  go_step3
  go_wp2
  go_loopw [3, 14] (fun st i wr => ∃ k : Nat, k ≤ n ∧ st = .bool true ∧ i = .int .i64 k ∧ Hid (Ch.strict (ts.drop k) = S) ∧ Below w.heap.size w wr) (fun _ i _ => n - (intOf i).toNat)
  case atStart => exact ⟨0, Nat.zero_le _, rfl, rfl, (by show _ = _; rw [List.drop_zero]; exact HS.out), b1⟩
  case round =>
    obtain ⟨k, hk, rfl, rfl, HI, hB⟩ := hrel
    by_cases hlt : k < n
    · have hkl : Hid (k < ts.length) := by show _ < _; have := HL.out; omega
      obtain ⟨b, off, ai, ni, ci, rfl, hc0, hc1, hc2, hc3, hc4, hc5, _, _⟩ := (h.below hB).act hlt
      have HF : Hid (Ch.rowOk (Ch.acAt ts k) (ts.drop (k + 1)) = false → S = false) := fun h => (HI.out.symm.trans (Ch.strict_no hkl.out h))
      have HT : Hid (Ch.rowOk (Ch.acAt ts k) (ts.drop (k + 1)) = true → Ch.strict (ts.drop (k + 1)) = S) := fun h => ((Ch.strict_on hkl.out h).symm.trans HI.out)
      generalize Ch.acAt ts k = f at *
      obtain ⟨tx, kd, p, q, v, an⟩ := f
      simp only at hc0 hc1 hc2 hc3 hc4
      have hbl := lt_of_cell hc0
      go_wp2_with fail
      refine (forbidden_any tx kd p q v _ an _).mono ?_
      rintro e w2 ⟨fv, rfl, hfv, b2⟩
      have hB2 : Below w.heap.size w w2 := hB.trans ((below_box b2).mono hB.size)
      have x0 := box_cell b2 0
      simp at x0
      have hb2 := lt_of_cell x0
      clear b2 hc0 hc1 hc2 hc3 hc4 hc5
      by_cases hk1 : k + 1 < n
      · have hcl : k + 1 < cap := by omega
        have HA : Hid (AcAt w (some ⟨b, off, none⟩) n ts) := h
        have HB2 := hid hB2
        clear h1 hB HI h
        go_wp2
        go_loopw [3, 26] (fun st i wx => ∃ j : Nat, j ≤ n - (k + 1) ∧ st = .bool true ∧ i = .int .i64 j ∧ Hid (Ch.rowOk ⟨tx, kd, p, q, v, an⟩ (ts.drop (k + 1)) = Ch.rowOk ⟨tx, kd, p, q, v, an⟩ (ts.drop (k + 1 + j))) ∧ Below w2.heap.size w2 wx) (fun _ i _ => n - (intOf i).toNat)
        case atStart => exact ⟨0, Nat.zero_le _, rfl, rfl, rfl, Below.refl _ _⟩
        case round =>
          obtain ⟨j, hj, rfl, rfl, HJ, hBx⟩ := hrel
          generalize hwx : wr = wx at *
          clear hwx
          have hBB : Below w.heap.size w wx := HB2.out.trans (hBx.mono HB2.out.size)
          by_cases hjl : j < n - (k + 1)
          · obtain ⟨b', off', ai', ni', ci', hab, hd0, hd1, hd2, hd3, hd4, hd5, _, _⟩ := (HA.out.below hBB).act (k := k + 1 + j) (by omega)
            simp only [Option.some.injEq, Addr.mk.injEq, and_true] at hab
            obtain ⟨rfl, rfl⟩ := hab
            rw [show off + (k + 1 + j) * 6 = off + (k + 1) * 6 + j * 6 by omega] at hd0 hd1 hd2 hd3 hd4 hd5
            have HD := hid (Ch.dropA (ts := ts) (k := k + 1 + j) (by have := HL.out; omega))
            generalize Ch.acAt ts (k + 1 + j) = l at *
            obtain ⟨ltx, lk, la, lb, lv, lan⟩ := l
            simp only at hd0 hd1 hd2 hd3 hd4
            have y0 := keep_cell hBx x0
            have hbx := lt_of_cell y0
            have hbd := lt_of_cell hd0
            have HFx := hfv.below hBx
            have HR : Hid (Ch.rowOk ⟨tx, kd, p, q, v, an⟩ (ts.drop (k + 1)) = Ch.rowOk ⟨tx, kd, p, q, v, an⟩ (⟨ltx, lk, la, lb, lv, lan⟩ :: ts.drop (k + 1 + j + 1))) := by
              show _ = _
              rw [HJ.out, HD.out]
            clear HJ HD
            obtain ⟨Z, HZ⟩ : ∃ Z, Hid (Ch.forbid ⟨tx, kd, p, q, v, an⟩ ⟨ltx, lk, la, lb, lv, lan⟩ = Z) := ⟨_, rfl⟩
            have HY : Hid (Z = true → S = false) := fun hz => HF.out (by rw [HR.out]; exact Ch.row_yes (HZ.out.trans hz))
            have HO : Hid (Z = false → (ltx == tx && Ch.isE lk) = true → Ch.strict (ts.drop (k + 1)) = S) := fun hz he => HT.out (by rw [HR.out]; exact Ch.row_over (HZ.out.trans hz) he)
            have HN : Hid (Z = false → (ltx == tx && Ch.isE lk) = false → Ch.rowOk ⟨tx, kd, p, q, v, an⟩ (ts.drop (k + 1)) = Ch.rowOk ⟨tx, kd, p, q, v, an⟩ (ts.drop (k + 1 + (j + 1)))) := fun hz he => by rw [HR.out]; exact Ch.row_on (HZ.out.trans hz) he
            clear HR
            rcases HFx with ⟨B, rfl, h2, h3⟩ | ⟨B, rfl, h2, h3, h4⟩ | ⟨rfl, h3, h4⟩
            · have IC := fun W (hW : Below wx.heap.size wx W) => forb1_any _ B ltx lk la lb lv (.slice ai' ni' ci') W (h2.below hW) lan h3
              rw [HZ.out] at IC
              clear HZ h2 h3 hfv
              go_wp2_with fail
              refine (IC _ ((Below.refl _ _).alloc (Nat.le_refl _) _)).mono ?_
              rintro e w3 ⟨rfl, b3⟩
              have hBc : Below w2.heap.size w2 w3 := hBx.trans ((below_box b3).mono hBx.size)
              have hBBc : Below w.heap.size w w3 := hBB.trans ((below_box b3).mono hBB.size)
              have z0 := box_cell b3 0
              have z1 := box_cell b3 1
              simp at z0 z1
              have y0' := keep_cell hBc x0
              have hbz := lt_of_cell z0
              have hbz' := lt_of_cell y0'
              clear IC b3 hd0 hd1 hd2 hd3 hd4 hd5 y0
              cases Z with
              | true =>
                have HZ := hid (HY.out rfl)
                clear HY HO HN
                go_wp2
                rw [Exit.noGoto_ret]
                go_ret
                exact ⟨ret_boolA HZ.out.symm, hBBc⟩
              | false =>
                by_cases he : (ltx == tx) = true
                · cases hE : Ch.isE lk with
                  | true =>
                    have HZ := hid (HO.out rfl (by rw [he, hE]; rfl))
                    clear HY HO HN
                    go_wp2_with (go_at_call 52; refine (isEnd_any _ _).mono ?_; rintro e w' ⟨rfl, rfl⟩; rw [hE])
                    go_roundw
                    case rel => exact ⟨k + 1, by omega, rfl, by go_num, HZ, hBBc⟩
                    case measure => simp [intOf]; omega
                  | false =>
                    have HZ := hid (HN.out rfl (by rw [he, hE]; rfl))
                    clear HY HO HN
                    go_wp2_with (go_at_call 52; refine (isEnd_any _ _).mono ?_; rintro e w' ⟨rfl, rfl⟩; rw [hE])
                    go_roundw
                    case rel => exact ⟨j + 1, by omega, rfl, by go_num, HZ, hBc⟩
                    case measure => simp [intOf]; omega
                · have he' : (ltx == tx) = false := by simpa using he
                  have HZ := hid (HN.out rfl (by rw [he']; rfl))
                  clear HY HO HN he
                  go_wp2
                  go_roundw
                  case rel => exact ⟨j + 1, by omega, rfl, by go_num, HZ, hBc⟩
                  case measure => simp [intOf]; omega
            · have IC := fun W (hW : Below wx.heap.size wx W) => forb2_any _ B ltx lk la lb lv (.slice ai' ni' ci') W (h2.below hW) lan h3 h4
              rw [HZ.out] at IC
              clear HZ h2 h3 h4 hfv
              go_wp2_with fail
              refine (IC _ ((Below.refl _ _).alloc (Nat.le_refl _) _)).mono ?_
              rintro e w3 ⟨rfl, b3⟩
              have hBc : Below w2.heap.size w2 w3 := hBx.trans ((below_box b3).mono hBx.size)
              have hBBc : Below w.heap.size w w3 := hBB.trans ((below_box b3).mono hBB.size)
              have z0 := box_cell b3 0
              have z1 := box_cell b3 1
              simp at z0 z1
              have y0' := keep_cell hBc x0
              have hbz := lt_of_cell z0
              have hbz' := lt_of_cell y0'
              clear IC b3 hd0 hd1 hd2 hd3 hd4 hd5 y0
              cases Z with
              | true =>
                have HZ := hid (HY.out rfl)
                clear HY HO HN
                go_wp2
                rw [Exit.noGoto_ret]
                go_ret
                exact ⟨ret_boolA HZ.out.symm, hBBc⟩
              | false =>
                by_cases he : (ltx == tx) = true
                · cases hE : Ch.isE lk with
                  | true =>
                    have HZ := hid (HO.out rfl (by rw [he, hE]; rfl))
                    clear HY HO HN
                    go_wp2_with (go_at_call 52; refine (isEnd_any _ _).mono ?_; rintro e w' ⟨rfl, rfl⟩; rw [hE])
                    go_roundw
                    case rel => exact ⟨k + 1, by omega, rfl, by go_num, HZ, hBBc⟩
                    case measure => simp [intOf]; omega
                  | false =>
                    have HZ := hid (HN.out rfl (by rw [he, hE]; rfl))
                    clear HY HO HN
                    go_wp2_with (go_at_call 52; refine (isEnd_any _ _).mono ?_; rintro e w' ⟨rfl, rfl⟩; rw [hE])
                    go_roundw
                    case rel => exact ⟨j + 1, by omega, rfl, by go_num, HZ, hBc⟩
                    case measure => simp [intOf]; omega
                · have he' : (ltx == tx) = false := by simpa using he
                  have HZ := hid (HN.out rfl (by rw [he']; rfl))
                  clear HY HO HN he
                  go_wp2
                  go_roundw
                  case rel => exact ⟨j + 1, by omega, rfl, by go_num, HZ, hBc⟩
                  case measure => simp [intOf]; omega
            · have IC := fun W (hW : Below wx.heap.size wx W) => forb3_any _ ltx lk la lb lv (.slice ai' ni' ci') W lan h3 h4
              rw [HZ.out] at IC
              clear HZ h3 h4 hfv
              go_wp2_with fail
              refine (IC _ ((Below.refl _ _).alloc (Nat.le_refl _) _)).mono ?_
              rintro e w3 ⟨rfl, b3⟩
              have hBc : Below w2.heap.size w2 w3 := hBx.trans ((below_box b3).mono hBx.size)
              have hBBc : Below w.heap.size w w3 := hBB.trans ((below_box b3).mono hBB.size)
              have z0 := box_cell b3 0
              have z1 := box_cell b3 1
              simp at z0 z1
              have y0' := keep_cell hBc x0
              have hbz := lt_of_cell z0
              have hbz' := lt_of_cell y0'
              clear IC b3 hd0 hd1 hd2 hd3 hd4 hd5 y0
              cases Z with
              | true =>
                have HZ := hid (HY.out rfl)
                clear HY HO HN
                go_wp2
                rw [Exit.noGoto_ret]
                go_ret
                exact ⟨ret_boolA HZ.out.symm, hBBc⟩
              | false =>
                by_cases he : (ltx == tx) = true
                · cases hE : Ch.isE lk with
                  | true =>
                    have HZ := hid (HO.out rfl (by rw [he, hE]; rfl))
                    clear HY HO HN
                    go_wp2_with (go_at_call 52; refine (isEnd_any _ _).mono ?_; rintro e w' ⟨rfl, rfl⟩; rw [hE])
                    go_roundw
                    case rel => exact ⟨k + 1, by omega, rfl, by go_num, HZ, hBBc⟩
                    case measure => simp [intOf]; omega
                  | false =>
                    have HZ := hid (HN.out rfl (by rw [he, hE]; rfl))
                    clear HY HO HN
                    go_wp2_with (go_at_call 52; refine (isEnd_any _ _).mono ?_; rintro e w' ⟨rfl, rfl⟩; rw [hE])
                    go_roundw
                    case rel => exact ⟨j + 1, by omega, rfl, by go_num, HZ, hBc⟩
                    case measure => simp [intOf]; omega
                · have he' : (ltx == tx) = false := by simpa using he
                  have HZ := hid (HN.out rfl (by rw [he']; rfl))
                  clear HY HO HN he
                  go_wp2
                  go_roundw
                  case rel => exact ⟨j + 1, by omega, rfl, by go_num, HZ, hBc⟩
                  case measure => simp [intOf]; omega
          · obtain rfl : j = n - (k + 1) := by omega
            have HR : Hid (Ch.strict (ts.drop (k + 1)) = S) := HT.out (by
              have h1 := HJ.out
              rw [List.drop_of_length_le (show ts.length ≤ k + 1 + (n - (k + 1)) by have := HL.out; omega)] at h1
              exact h1)
            go_wp2
            go_roundw
            case rel => exact ⟨k + 1, by omega, rfl, by go_num, HR, hBB⟩
            case measure => simp [intOf]; omega
      · have hk1' : k + 1 = n := by omega
        have HR : Hid (Ch.strict (ts.drop (k + 1)) = S) := HT.out (by rw [List.drop_of_length_le (show ts.length ≤ k + 1 by have := HL.out; omega)]; rfl)
        clear h1 HI h hfv
        by_cases hcc : k + 1 < cap
        · go_wp2
          go_loopw [3, 26] (fun st i wx => st = .bool true ∧ i = .int .i64 0 ∧ Below w.heap.size w wx) (fun _ i _ => n - (intOf i).toNat)
          case atStart => exact ⟨rfl, rfl, hB2⟩
          case round =>
            obtain ⟨rfl, rfl, hB3⟩ := hrel
            go_wp2
            go_roundw
            case rel => exact ⟨k + 1, by omega, rfl, by go_num, HR, hB3⟩
            case measure => simp [intOf]; omega
        · obtain rfl : cap = n := by omega
          clear hcc hcap
          go_wp2
          go_loopw [3, 26] (fun st i wx => st = .bool true ∧ i = .int .i64 0 ∧ Below w.heap.size w wx) (fun _ i _ => cap - (intOf i).toNat)
          case atStart => exact ⟨rfl, rfl, hB2⟩
          case round =>
            obtain ⟨rfl, rfl, hB3⟩ := hrel
            go_wp2
            go_roundw
            case rel => exact ⟨k + 1, by omega, rfl, by go_num, HR, hB3⟩
            case measure => simp [intOf]; omega
    · obtain rfl : k = n := by omega
      have HZ : Hid (true = S) := by have h1 := HI.out; have h2 := HL.out; rw [h2, List.drop_length] at h1; exact h1
      go_wp2
      rw [Exit.noGoto_ret]
      go_ret
      exact ⟨ret_boolA HZ.out, hB⟩

set_option maxHeartbeats 1000000 in
theorem implStrict_any (a : Option Addr) (n cap : Nat) (ts : List Ch.Ac) (w : World) (h : AcAt w a n ts) (hn : n ≤ 1048576) (hcap : n ≤ cap) (hcm : cap ≤ 9223372036854775807) :
    Calls Try.prog 24 #[.slice a n cap] w fun e w' => e = .returned (.bool (Ch.strictR ts)) ∧ Below w.heap.size w w' := by
  by_cases h0 : Ch.acsF ts = 0
  · rw [Ch.strictR_ok h0]
    exact implStrict_ok a n cap ts w h hn hcap hcm h0
  · have h0' : (Ch.acsF ts != 0) = true := by simpa using h0
    rw [Ch.strictR_bad h0']
    have IA := fun W hW => implActs_any a n cap ts W hW hn
    generalize Ch.acsF ts = c at *
    clear h0
    go_enter Try.func24, Try.ntmps24
    go_wp2
    go_step3
    go_wp2_with fail
    refine (IA _ h).mono ?_
    rintro e w1 ⟨rfl, b1⟩
    go_wp2
    rw [Exit.noGoto_ret]
    go_ret
    exact ⟨rfl, b1⟩
end Go.Proofs.Ytlpncikiaojmiaa

/- StrictActs of the model. -/
namespace Go.Proofs.Ytlpncikiaojmiaa
open Go.RowKit

theorem add_1 (x : Nat) : x + 1 + 1 = x + 2 := rfl
set_option maxHeartbeats 4000000 in
theorem l14Strict_any (a : Option Addr) (n cap : Nat) (ts : List Ch.Ac) (w : World) (h : AcAt w a n ts) (hn : n ≤ 1048576) (hF : Ch.acsF ts = 0) :
    Calls Try.prog 49 #[.slice a n cap] w fun e w' => e = .returned (.bool (Ch.strict ts)) ∧ Below w.heap.size w w' := by
  have HL := h.len
  have HZ := hid (Ch.acsF_zero hF).2
  clear hF
  obtain ⟨S, HS⟩ : ∃ S, Hid (Ch.strict ts = S) := ⟨_, rfl⟩
  rw [HS.out]
  have HA : Hid (AcAt w a n ts) := h
  clear h
  go_enter Try.func49, Try.ntmps49
  go_wp2
  go_loopw [3] (fun i wr => ∃ k : Nat, k ≤ n ∧ i = .int .i64 k ∧ Hid (Ch.strict (ts.drop k) = S) ∧ Below w.heap.size w wr) (fun i _ => n - (intOf i).toNat)
  case atStart => exact ⟨0, Nat.zero_le _, rfl, (by show _ = _; rw [List.drop_zero]; exact HS.out), Below.refl _ _⟩
  case round =>
    obtain ⟨k, hk, rfl, HI, hB⟩ := hrel
    by_cases hlt : k < n
    · have hkl : Hid (k < ts.length) := by show _ < _; have := HL.out; omega
      have HFl : Hid ((Ch.acAt ts k).fault = 0) := HZ.out k hkl.out
      have HFF : Hid (Ch.rowOk (Ch.acAt ts k) (ts.drop (k + 1)) = false → S = false) := fun h => (HI.out.symm.trans (Ch.strict_no hkl.out h))
      have HT : Hid (Ch.rowOk (Ch.acAt ts k) (ts.drop (k + 1)) = true → Ch.strict (ts.drop (k + 1)) = S) := fun h => ((Ch.strict_on hkl.out h).symm.trans HI.out)
      have HAk : ∀ W, Below w.heap.size w W → ∃ b off an nn cn, a = some ⟨b, off, none⟩ ∧ AcOne W b (off + k * 6) an nn cn (Ch.acAt ts k) := fun W hW => (HA.out.below hW).act hlt
      generalize Ch.acAt ts k = f at *
      obtain ⟨tx, kd, p, q, v, an⟩ := f
      obtain ⟨b, off, ai, ni, ci, rfl, _⟩ := HAk _ hB
      have HAk' : Hid (∀ W, Below w.heap.size w W → ∃ an' : Option Addr × Nat × Nat, AcOne W b (off + k * 6) an'.1 an'.2.1 an'.2.2 (Ch.Ac.mk tx kd p q v an)) := fun W hW => by
        obtain ⟨b', off', ai', ni', ci', hab, h1⟩ := HAk W hW
        simp only [Option.some.injEq, Addr.mk.injEq, and_true] at hab
        obtain ⟨rfl, rfl⟩ := hab
        exact ⟨(ai', ni', ci'), h1⟩
      clear HAk HI
      go_wp2
      go_loopw [4, 5] (fun ov jv wx => ∃ (o : Bool) (j : Nat), k + 1 ≤ j ∧ j ≤ n ∧ ov = .bool o ∧ jv = .int .i64 j ∧ Hid (o = true → Ch.rowOk ⟨tx, kd, p, q, v, an⟩ (ts.drop (k + 1)) = true) ∧ Hid (o = false → Ch.rowOk ⟨tx, kd, p, q, v, an⟩ (ts.drop (k + 1)) = Ch.rowOk ⟨tx, kd, p, q, v, an⟩ (ts.drop j)) ∧ Below w.heap.size w wx) (fun _ jv _ => n - (intOf jv).toNat)
      case atStart => exact ⟨false, k + 1, Nat.le_refl _, by omega, rfl, by go_num, hid (fun h => by cases h), hid (fun _ => rfl), hB⟩
      case round =>
        obtain ⟨o, j, hkj, hj, rfl, rfl, HO, HJ, hBx⟩ := hrel
        generalize hwx : wr = wx at *
        clear hwx
        by_cases hjl : j < n
        · cases o with
          | true =>
            have HR : Hid (Ch.strict (ts.drop (k + 1)) = S) := HT.out (HO.out rfl)
            go_wp2
            go_roundw
            case rel => exact ⟨k + 1, by omega, by go_num, HR, hBx⟩
            case measure => simp [intOf]; omega
          | false =>
            have HFj : Hid ((Ch.acAt ts j).fault = 0) := HZ.out j (by have := HL.out; omega)
            have HD := hid (Ch.dropA (ts := ts) (k := j) (by have := HL.out; omega))
            obtain ⟨⟨ai, ni, ci⟩, hc0, hc1, hc2, hc3, hc4, hc5, _, _⟩ := HAk'.out _ hBx
            obtain ⟨b', off', ai', ni', ci', hab, hd0, hd1, hd2, hd3, hd4, hd5, _, _⟩ := (HA.out.below hBx).act (k := j) hjl
            simp only [Option.some.injEq, Addr.mk.injEq, and_true] at hab
            obtain ⟨rfl, rfl⟩ := hab
            generalize Ch.acAt ts j = l at *
            obtain ⟨ltx, lk, la, lb, lv, lan⟩ := l
            simp only at hc0 hc1 hc2 hc3 hc4 hd0 hd1 hd2 hd3 hd4
            have hbl := lt_of_cell hc0
            clear hc5 hd5
            have HR : Hid (Ch.rowOk ⟨tx, kd, p, q, v, an⟩ (ts.drop (k + 1)) = Ch.rowOk ⟨tx, kd, p, q, v, an⟩ (⟨ltx, lk, la, lb, lv, lan⟩ :: ts.drop (j + 1))) := by
              show _ = _
              rw [HJ.out rfl, HD.out]
            clear HJ HD HO
            by_cases he : (ltx == tx) = true
            · have HW : Hid (Ch.forbid ⟨tx, kd, p, q, v, an⟩ ⟨ltx, lk, la, lb, lv, lan⟩ = Ch.isE kd) := Ch.forbid_own he
              go_wp2_with fail
              refine wp_region_noPanic ?_
              refine wp_region_held_drew (S := fun W' => W'.cell? ⟨b, off + k * 6, none⟩ = some (.int .i64 tx) ∧ W'.cell? ⟨b, off + j * 6, none⟩ = some (.int .i64 ltx) ∧ Below wx.heap.size wx W') (by kernel_rfl) (⟨hc0, hd0, (Below.refl _ _).drew⟩) (fun hH => ?_)
              refine hTake (i := 0) (v := ?_) rfl (by kernel_rfl) (by kernel_rfl) (by kernel_rfl) (by rfl) ?_ hH ?_
              rotate_left
              · intro W hW; (try dsimp only at hW); go_simp <;> with_reducible rfl
              simp only [Act.put, List.setIfInBounds_toArray, List.set_cons_zero, List.set_cons_succ]
              refine hTake (i := 1) (v := ?_) rfl (by kernel_rfl) (by kernel_rfl) (by kernel_rfl) (by rfl) ?_ hH ?_
              rotate_left
              · intro W hW; (try dsimp only at hW); go_simp <;> with_reducible rfl
              simp only [Act.put, List.setIfInBounds_toArray, List.set_cons_zero, List.set_cons_succ]
              refine hTake (i := 2) (v := ?_) rfl (by kernel_rfl) (by kernel_rfl) (by kernel_rfl) (by rfl) ?_ hH ?_
              rotate_left
              · intro W hW; (try dsimp only at hW); go_simp <;> with_reducible rfl
              simp only [Act.put, List.setIfInBounds_toArray, List.set_cons_zero, List.set_cons_succ]
              refine hTake (i := 3) (v := ?_) rfl (by kernel_rfl) (by kernel_rfl) (by kernel_rfl) (by rfl) ?_ hH ?_
              rotate_left
              · intro W hW; (try dsimp only at hW); go_simp <;> with_reducible rfl
              simp only [Act.put, List.setIfInBounds_toArray, List.set_cons_zero, List.set_cons_succ]
              refine hTake (i := 4) (v := ?_) rfl (by kernel_rfl) (by kernel_rfl) (by kernel_rfl) (by rfl) ?_ hH ?_
              rotate_left
              · intro W hW; (try dsimp only at hW); go_simp <;> with_reducible rfl
              simp only [Act.put, List.setIfInBounds_toArray, List.set_cons_zero, List.set_cons_succ]
              refine hTake (i := 5) (v := ?_) rfl (by kernel_rfl) (by kernel_rfl) (by kernel_rfl) (by rfl) ?_ hH ?_
              rotate_left
              · intro W hW; (try dsimp only at hW); go_simp <;> with_reducible rfl
              simp only [Act.put, List.setIfInBounds_toArray, List.set_cons_zero, List.set_cons_succ]
              refine hTake (i := 6) (v := ?_) rfl (by kernel_rfl) (by kernel_rfl) (by kernel_rfl) (by rfl) ?_ hH ?_
              rotate_left
              · intro W hW; (try dsimp only at hW); go_simp <;> with_reducible rfl
              simp only [Act.put, List.setIfInBounds_toArray, List.set_cons_zero, List.set_cons_succ]
              refine hTake (i := 7) (v := ?_) rfl (by kernel_rfl) (by kernel_rfl) (by kernel_rfl) (by rfl) ?_ hH ?_
              rotate_left
              · intro W hW; (try dsimp only at hW); go_simp <;> with_reducible rfl
              simp only [Act.put, List.setIfInBounds_toArray, List.set_cons_zero, List.set_cons_succ]
              refine hTake (i := 8) (v := ?_) rfl (by kernel_rfl) (by kernel_rfl) (by kernel_rfl) (by rfl) ?_ hH ?_
              rotate_left
              · intro W hW; (try dsimp only at hW); go_simp <;> with_reducible rfl
              simp only [Act.put, List.setIfInBounds_toArray, List.set_cons_zero, List.set_cons_succ]
              refine hTake (i := 9) (v := ?_) rfl (by kernel_rfl) (by kernel_rfl) (by kernel_rfl) (by rfl) ?_ hH ?_
              rotate_left
              · intro W hW; (try dsimp only at hW); go_simp <;> with_reducible rfl
              simp only [Act.put, List.setIfInBounds_toArray, List.set_cons_zero, List.set_cons_succ]
              refine hTake (i := 10) (v := ?_) rfl (by kernel_rfl) (by kernel_rfl) (by kernel_rfl) (by rfl) ?_ hH ?_
              rotate_left
              · intro W hW; (try dsimp only at hW); go_simp <;> with_reducible rfl
              simp only [Act.put, List.setIfInBounds_toArray, List.set_cons_zero, List.set_cons_succ]
              refine wpAnyH_done (by kernel_rfl) ?_ _
              refine NoPanic.normal ?_
              go_wp2_with fail
              obtain ⟨_, _, hB8⟩ := hH
              refine (l14Ends_any _ _ _ _ _).mono ?_
              rintro e w4 ⟨rfl, b4⟩
              have hB4 : Below wx.heap.size wx w4 := hB8.trans (b4.mono hB8.size)
              have hBw : Below w.heap.size w w4 := hBx.trans (hB4.mono hBx.size)
              replace hd1 := keep_cell hB4 hd1
              replace hd2 := keep_cell hB4 hd2
              replace hd3 := keep_cell hB4 hd3
              replace hd4 := keep_cell hB4 hd4
              have hbl4 := lt_of_cell hd1
              clear hc0 hc1 hc2 hc3 hc4 hd0 b4 hbl
              cases hE : Ch.isE kd with
              | true =>
                have HQ := hid (HFF.out (by rw [HR.out]; exact Ch.row_yes (HW.out.trans hE)))
                go_wp2
                go_ret
                exact ⟨ret_boolA HQ.out.symm, hBw⟩
              | false =>
                have HQ1 : Hid (Ch.isE lk = true → Ch.rowOk ⟨tx, kd, p, q, v, an⟩ (ts.drop (k + 1)) = true) := fun h => by rw [HR.out]; exact Ch.row_over (HW.out.trans hE) (by simp only; rw [he, h]; rfl)
                have HQ2 : Hid (Ch.isE lk = false → Ch.rowOk ⟨tx, kd, p, q, v, an⟩ (ts.drop (k + 1)) = Ch.rowOk ⟨tx, kd, p, q, v, an⟩ (ts.drop (j + 1))) := fun h => by rw [HR.out]; exact Ch.row_on (HW.out.trans hE) (by simp only; rw [he, h]; rfl)
                go_wp2_with fail
                refine (l14Ends_any _ _ _ _ _).mono ?_
                rintro e w5 ⟨rfl, b5⟩
                have hBv : Below w.heap.size w w5 := hBw.trans (b5.mono hBw.size)
                generalize Ch.isE lk = o2 at *
                go_wp2
                go_roundw
                case rel => exact ⟨o2, j + 1, by omega, by omega, rfl, by go_num, HQ1, HQ2, hBv⟩
                case measure => simp [intOf]; omega
            · have he' : (ltx == tx) = false := by simpa using he
              have HW : Hid (Ch.forbid ⟨tx, kd, p, q, v, an⟩ ⟨ltx, lk, la, lb, lv, lan⟩ = (Ch.isW kd && Ch.touch lk la lb p)) := Ch.forbid_other HFl.out HFj.out he'
              have IW := fun W => l14Writes_any kd p q v W
              have IT := fun W => l14Touches_any lk la lb lv p W
              have HN : Hid ((Ch.isW kd && Ch.touch lk la lb p) = false → Ch.rowOk ⟨tx, kd, p, q, v, an⟩ (ts.drop (k + 1)) = Ch.rowOk ⟨tx, kd, p, q, v, an⟩ (ts.drop (j + 1))) := fun h => by rw [HR.out]; exact Ch.row_on (HW.out.trans h) (by simp only; rw [he']; rfl)
              have HY : Hid ((Ch.isW kd && Ch.touch lk la lb p) = true → S = false) := fun h => HFF.out (by rw [HR.out]; exact Ch.row_yes (HW.out.trans h))
              clear HW HR he
              cases hW : Ch.isW kd with
              | true =>
                rw [hW] at IW
                cases hTt : Ch.touch lk la lb p with
                | true =>
                  rw [hTt] at IT
                  have HQ := hid (HY.out (by rw [hW, hTt]; rfl))
                  clear HN HY
                  go_wp2_with fail
                  refine wp_region_noPanic ?_
                  refine wp_region_held_drew (S := fun W' => W'.cell? ⟨b, off + k * 6, none⟩ = some (.int .i64 tx) ∧ W'.cell? ⟨b, off + j * 6, none⟩ = some (.int .i64 ltx) ∧ Below wx.heap.size wx W') (by kernel_rfl) (⟨hc0, hd0, (Below.refl _ _).drew⟩) (fun hH => ?_)
                  refine hTake (i := 0) (v := ?_) rfl (by kernel_rfl) (by kernel_rfl) (by kernel_rfl) (by rfl) ?_ hH ?_
                  rotate_left
                  · intro W hW; (try dsimp only at hW); go_simp <;> with_reducible rfl
                  simp only [Act.put, List.setIfInBounds_toArray, List.set_cons_zero, List.set_cons_succ]
                  refine hTake (i := 1) (v := ?_) rfl (by kernel_rfl) (by kernel_rfl) (by kernel_rfl) (by rfl) ?_ hH ?_
                  rotate_left
                  · intro W hW; (try dsimp only at hW); go_simp <;> with_reducible rfl
                  simp only [Act.put, List.setIfInBounds_toArray, List.set_cons_zero, List.set_cons_succ]
                  refine hTake (i := 2) (v := ?_) rfl (by kernel_rfl) (by kernel_rfl) (by kernel_rfl) (by rfl) ?_ hH ?_
                  rotate_left
                  · intro W hW; (try dsimp only at hW); go_simp <;> with_reducible rfl
                  simp only [Act.put, List.setIfInBounds_toArray, List.set_cons_zero, List.set_cons_succ]
                  refine hTake (i := 3) (v := ?_) rfl (by kernel_rfl) (by kernel_rfl) (by kernel_rfl) (by rfl) ?_ hH ?_
                  rotate_left
                  · intro W hW; (try dsimp only at hW); go_simp <;> with_reducible rfl
                  simp only [Act.put, List.setIfInBounds_toArray, List.set_cons_zero, List.set_cons_succ]
                  refine hTake (i := 4) (v := ?_) rfl (by kernel_rfl) (by kernel_rfl) (by kernel_rfl) (by rfl) ?_ hH ?_
                  rotate_left
                  · intro W hW; (try dsimp only at hW); go_simp <;> with_reducible rfl
                  simp only [Act.put, List.setIfInBounds_toArray, List.set_cons_zero, List.set_cons_succ]
                  refine hTake (i := 5) (v := ?_) rfl (by kernel_rfl) (by kernel_rfl) (by kernel_rfl) (by rfl) ?_ hH ?_
                  rotate_left
                  · intro W hW; (try dsimp only at hW); go_simp <;> with_reducible rfl
                  simp only [Act.put, List.setIfInBounds_toArray, List.set_cons_zero, List.set_cons_succ]
                  refine hTake (i := 6) (v := ?_) rfl (by kernel_rfl) (by kernel_rfl) (by kernel_rfl) (by rfl) ?_ hH ?_
                  rotate_left
                  · intro W hW; (try dsimp only at hW); go_simp <;> with_reducible rfl
                  simp only [Act.put, List.setIfInBounds_toArray, List.set_cons_zero, List.set_cons_succ]
                  refine hTake (i := 7) (v := ?_) rfl (by kernel_rfl) (by kernel_rfl) (by kernel_rfl) (by rfl) ?_ hH ?_
                  rotate_left
                  · intro W hW; (try dsimp only at hW); go_simp <;> with_reducible rfl
                  simp only [Act.put, List.setIfInBounds_toArray, List.set_cons_zero, List.set_cons_succ]
                  refine hTake (i := 8) (v := ?_) rfl (by kernel_rfl) (by kernel_rfl) (by kernel_rfl) (by rfl) ?_ hH ?_
                  rotate_left
                  · intro W hW; (try dsimp only at hW); go_simp <;> with_reducible rfl
                  simp only [Act.put, List.setIfInBounds_toArray, List.set_cons_zero, List.set_cons_succ]
                  refine hTake (i := 9) (v := ?_) rfl (by kernel_rfl) (by kernel_rfl) (by kernel_rfl) (by rfl) ?_ hH ?_
                  rotate_left
                  · intro W hW; (try dsimp only at hW); go_simp <;> with_reducible rfl
                  simp only [Act.put, List.setIfInBounds_toArray, List.set_cons_zero, List.set_cons_succ]
                  refine hTake (i := 10) (v := ?_) rfl (by kernel_rfl) (by kernel_rfl) (by kernel_rfl) (by rfl) ?_ hH ?_
                  rotate_left
                  · intro W hW; (try dsimp only at hW); go_simp <;> with_reducible rfl
                  simp only [Act.put, List.setIfInBounds_toArray, List.set_cons_zero, List.set_cons_succ]
                  refine wpAnyH_done (by kernel_rfl) ?_ _
                  refine NoPanic.normal ?_
                  go_wp2_with fail
                  obtain ⟨_, _, hB8⟩ := hH
                  refine wp_region_noPanic ?_
                  refine wp_region_held_drew (S := fun W' => W'.cell? ⟨b, off + k * 6, none⟩ = some (.int .i64 tx) ∧ W'.cell? ⟨b, off + k * 6 + 1, none⟩ = some (.int .i64 kd) ∧ W'.cell? ⟨b, off + k * 6 + 1 + 1, none⟩ = some (.int .i64 p) ∧ W'.cell? ⟨b, off + k * 6 + 1 + 2, none⟩ = some (.int .i64 q) ∧ W'.cell? ⟨b, off + k * 6 + 1 + 3, none⟩ = some (.int .i64 v) ∧ W'.cell? ⟨b, off + j * 6, none⟩ = some (.int .i64 ltx) ∧ W'.cell? ⟨b, off + j * 6 + 1, none⟩ = some (.int .i64 lk) ∧ W'.cell? ⟨b, off + j * 6 + 1 + 1, none⟩ = some (.int .i64 la) ∧ W'.cell? ⟨b, off + j * 6 + 1 + 2, none⟩ = some (.int .i64 lb) ∧ W'.cell? ⟨b, off + j * 6 + 1 + 3, none⟩ = some (.int .i64 lv) ∧ Below wx.heap.size wx W') (by kernel_rfl) (⟨hc0, hc1, hc2, hc3, hc4, hd0, hd1, hd2, hd3, hd4, hB8.drew⟩) (fun hH => ?_)
                  refine hTake (i := 0) (v := ?_) rfl (by kernel_rfl) (by kernel_rfl) (by kernel_rfl) (by rfl) ?_ hH ?_
                  rotate_left
                  · intro W hW; (try dsimp only at hW); go_simp <;> with_reducible rfl
                  simp only [Act.put, List.setIfInBounds_toArray, List.set_cons_zero, List.set_cons_succ]
                  refine hTake (i := 1) (v := ?_) rfl (by kernel_rfl) (by kernel_rfl) (by kernel_rfl) (by rfl) ?_ hH ?_
                  rotate_left
                  · intro W hW; (try dsimp only at hW); go_simp <;> with_reducible rfl
                  simp only [Act.put, List.setIfInBounds_toArray, List.set_cons_zero, List.set_cons_succ]
                  refine hTake (i := 2) (v := ?_) rfl (by kernel_rfl) (by kernel_rfl) (by kernel_rfl) (by rfl) ?_ hH ?_
                  rotate_left
                  · intro W hW; (try dsimp only at hW); go_simp <;> with_reducible rfl
                  simp only [Act.put, List.setIfInBounds_toArray, List.set_cons_zero, List.set_cons_succ]
                  refine hTake (i := 3) (v := ?_) rfl (by kernel_rfl) (by kernel_rfl) (by kernel_rfl) (by rfl) ?_ hH ?_
                  rotate_left
                  · intro W hW; (try dsimp only at hW); go_simp <;> with_reducible rfl
                  simp only [Act.put, List.setIfInBounds_toArray, List.set_cons_zero, List.set_cons_succ]
                  refine hTake (i := 4) (v := ?_) rfl (by kernel_rfl) (by kernel_rfl) (by kernel_rfl) (by rfl) ?_ hH ?_
                  rotate_left
                  · intro W hW; (try dsimp only at hW); go_simp <;> with_reducible rfl
                  simp only [Act.put, List.setIfInBounds_toArray, List.set_cons_zero, List.set_cons_succ]
                  refine wpAnyH_ready (rs := [5]) (by kernel_rfl) (by simp) ?_
                  refine AllReadyH.cons rfl (fun K hK => ?_) AllReadyH.nil
                  go_simp
                  refine (IW _).mono ?_
                  rintro e w4 ⟨rfl, b4⟩
                  go_wp2_with fail
                  refine hK.out _ _ ?_ (fun hH => ?_)
                  · exact ⟨keep_cell b4 hH.1, keep_cell b4 hH.2.1, keep_cell b4 hH.2.2.1, keep_cell b4 hH.2.2.2.1, keep_cell b4 hH.2.2.2.2.1, keep_cell b4 hH.2.2.2.2.2.1, keep_cell b4 hH.2.2.2.2.2.2.1, keep_cell b4 hH.2.2.2.2.2.2.2.1, keep_cell b4 hH.2.2.2.2.2.2.2.2.1, keep_cell b4 hH.2.2.2.2.2.2.2.2.2.1, hH.2.2.2.2.2.2.2.2.2.2.trans (b4.mono hH.2.2.2.2.2.2.2.2.2.2.size)⟩
                  clear hK K
                  refine hTake (i := 6) (v := ?_) rfl (by kernel_rfl) (by kernel_rfl) (by kernel_rfl) (by rfl) ?_ hH ?_
                  rotate_left
                  · intro W hW; (try dsimp only at hW); go_simp <;> with_reducible rfl
                  simp only [Act.put, List.setIfInBounds_toArray, List.set_cons_zero, List.set_cons_succ]
                  refine hTake (i := 7) (v := ?_) rfl (by kernel_rfl) (by kernel_rfl) (by kernel_rfl) (by rfl) ?_ hH ?_
                  rotate_left
                  · intro W hW; (try dsimp only at hW); go_simp <;> with_reducible rfl
                  simp only [Act.put, List.setIfInBounds_toArray, List.set_cons_zero, List.set_cons_succ]
                  refine hTake (i := 8) (v := ?_) rfl (by kernel_rfl) (by kernel_rfl) (by kernel_rfl) (by rfl) ?_ hH ?_
                  rotate_left
                  · intro W hW; (try dsimp only at hW); go_simp <;> with_reducible rfl
                  simp only [Act.put, List.setIfInBounds_toArray, List.set_cons_zero, List.set_cons_succ]
                  refine hTake (i := 9) (v := ?_) rfl (by kernel_rfl) (by kernel_rfl) (by kernel_rfl) (by rfl) ?_ hH ?_
                  rotate_left
                  · intro W hW; (try dsimp only at hW); go_simp <;> with_reducible rfl
                  simp only [Act.put, List.setIfInBounds_toArray, List.set_cons_zero, List.set_cons_succ]
                  refine hTake (i := 10) (v := ?_) rfl (by kernel_rfl) (by kernel_rfl) (by kernel_rfl) (by rfl) ?_ hH ?_
                  rotate_left
                  · intro W hW; (try dsimp only at hW); go_simp <;> with_reducible rfl
                  simp only [Act.put, List.setIfInBounds_toArray, List.set_cons_zero, List.set_cons_succ]
                  refine hTake (i := 11) (v := ?_) rfl (by kernel_rfl) (by kernel_rfl) (by kernel_rfl) (by rfl) ?_ hH ?_
                  rotate_left
                  · intro W hW; (try dsimp only at hW); go_simp <;> with_reducible rfl
                  simp only [Act.put, List.setIfInBounds_toArray, List.set_cons_zero, List.set_cons_succ]
                  refine hTake (i := 12) (v := ?_) rfl (by kernel_rfl) (by kernel_rfl) (by kernel_rfl) (by rfl) ?_ hH ?_
                  rotate_left
                  · intro W hW; (try dsimp only at hW); go_simp <;> with_reducible rfl
                  simp only [Act.put, List.setIfInBounds_toArray, List.set_cons_zero, List.set_cons_succ]
                  refine hTake (i := 13) (v := ?_) rfl (by kernel_rfl) (by kernel_rfl) (by kernel_rfl) (by rfl) ?_ hH ?_
                  rotate_left
                  · intro W hW; (try dsimp only at hW); go_simp <;> with_reducible rfl
                  simp only [Act.put, List.setIfInBounds_toArray, List.set_cons_zero, List.set_cons_succ]
                  refine hTake (i := 14) (v := ?_) rfl (by kernel_rfl) (by kernel_rfl) (by kernel_rfl) (by rfl) ?_ hH ?_
                  rotate_left
                  · intro W hW; (try dsimp only at hW); go_simp <;> with_reducible rfl
                  simp only [Act.put, List.setIfInBounds_toArray, List.set_cons_zero, List.set_cons_succ]
                  refine hTake (i := 15) (v := ?_) rfl (by kernel_rfl) (by kernel_rfl) (by kernel_rfl) (by rfl) ?_ hH ?_
                  rotate_left
                  · intro W hW; (try dsimp only at hW); go_simp <;> with_reducible rfl
                  simp only [Act.put, List.setIfInBounds_toArray, List.set_cons_zero, List.set_cons_succ]
                  refine hTake (i := 16) (v := ?_) rfl (by kernel_rfl) (by kernel_rfl) (by kernel_rfl) (by rfl) ?_ hH ?_
                  rotate_left
                  · intro W hW; (try dsimp only at hW); go_simp <;> with_reducible rfl
                  simp only [Act.put, List.setIfInBounds_toArray, List.set_cons_zero, List.set_cons_succ]
                  refine hTake (i := 17) (v := ?_) rfl (by kernel_rfl) (by kernel_rfl) (by kernel_rfl) (by rfl) ?_ hH ?_
                  rotate_left
                  · intro W hW; (try dsimp only at hW); go_simp <;> with_reducible rfl
                  simp only [Act.put, List.setIfInBounds_toArray, List.set_cons_zero, List.set_cons_succ]
                  refine wpAnyH_ready (rs := [18]) (by kernel_rfl) (by simp) ?_
                  refine AllReadyH.cons rfl (fun K hK => ?_) AllReadyH.nil
                  go_simp
                  refine (IT _).mono ?_
                  rintro e w4 ⟨rfl, b4⟩
                  go_wp2_with fail
                  refine hK.out _ _ ?_ (fun hH => ?_)
                  · exact ⟨keep_cell b4 hH.1, keep_cell b4 hH.2.1, keep_cell b4 hH.2.2.1, keep_cell b4 hH.2.2.2.1, keep_cell b4 hH.2.2.2.2.1, keep_cell b4 hH.2.2.2.2.2.1, keep_cell b4 hH.2.2.2.2.2.2.1, keep_cell b4 hH.2.2.2.2.2.2.2.1, keep_cell b4 hH.2.2.2.2.2.2.2.2.1, keep_cell b4 hH.2.2.2.2.2.2.2.2.2.1, hH.2.2.2.2.2.2.2.2.2.2.trans (b4.mono hH.2.2.2.2.2.2.2.2.2.2.size)⟩
                  clear hK K
                  refine hTake (i := 19) (v := ?_) rfl (by kernel_rfl) (by kernel_rfl) (by kernel_rfl) (by rfl) ?_ hH ?_
                  rotate_left
                  · intro W hW; (try dsimp only at hW); go_simp <;> with_reducible rfl
                  simp only [Act.put, List.setIfInBounds_toArray, List.set_cons_zero, List.set_cons_succ]
                  refine wpAnyH_done (by kernel_rfl) ?_ _
                  refine NoPanic.normal ?_
                  obtain ⟨_, _, _, _, _, _, _, _, _, _, hB12⟩ := hH
                  go_wp2
                  go_ret
                  exact ⟨ret_boolA HQ.out.symm, hBx.trans (hB12.mono hBx.size)⟩
                | false =>
                  rw [hTt] at IT
                  have HQ := hid (HN.out (by rw [hW, hTt]; rfl))
                  clear HN HY
                  go_wp2_with fail
                  refine wp_region_noPanic ?_
                  refine wp_region_held_drew (S := fun W' => W'.cell? ⟨b, off + k * 6, none⟩ = some (.int .i64 tx) ∧ W'.cell? ⟨b, off + j * 6, none⟩ = some (.int .i64 ltx) ∧ Below wx.heap.size wx W') (by kernel_rfl) (⟨hc0, hd0, (Below.refl _ _).drew⟩) (fun hH => ?_)
                  refine hTake (i := 0) (v := ?_) rfl (by kernel_rfl) (by kernel_rfl) (by kernel_rfl) (by rfl) ?_ hH ?_
                  rotate_left
                  · intro W hW; (try dsimp only at hW); go_simp <;> with_reducible rfl
                  simp only [Act.put, List.setIfInBounds_toArray, List.set_cons_zero, List.set_cons_succ]
                  refine hTake (i := 1) (v := ?_) rfl (by kernel_rfl) (by kernel_rfl) (by kernel_rfl) (by rfl) ?_ hH ?_
                  rotate_left
                  · intro W hW; (try dsimp only at hW); go_simp <;> with_reducible rfl
                  simp only [Act.put, List.setIfInBounds_toArray, List.set_cons_zero, List.set_cons_succ]
                  refine hTake (i := 2) (v := ?_) rfl (by kernel_rfl) (by kernel_rfl) (by kernel_rfl) (by rfl) ?_ hH ?_
                  rotate_left
                  · intro W hW; (try dsimp only at hW); go_simp <;> with_reducible rfl
                  simp only [Act.put, List.setIfInBounds_toArray, List.set_cons_zero, List.set_cons_succ]
                  refine hTake (i := 3) (v := ?_) rfl (by kernel_rfl) (by kernel_rfl) (by kernel_rfl) (by rfl) ?_ hH ?_
                  rotate_left
                  · intro W hW; (try dsimp only at hW); go_simp <;> with_reducible rfl
                  simp only [Act.put, List.setIfInBounds_toArray, List.set_cons_zero, List.set_cons_succ]
                  refine hTake (i := 4) (v := ?_) rfl (by kernel_rfl) (by kernel_rfl) (by kernel_rfl) (by rfl) ?_ hH ?_
                  rotate_left
                  · intro W hW; (try dsimp only at hW); go_simp <;> with_reducible rfl
                  simp only [Act.put, List.setIfInBounds_toArray, List.set_cons_zero, List.set_cons_succ]
                  refine hTake (i := 5) (v := ?_) rfl (by kernel_rfl) (by kernel_rfl) (by kernel_rfl) (by rfl) ?_ hH ?_
                  rotate_left
                  · intro W hW; (try dsimp only at hW); go_simp <;> with_reducible rfl
                  simp only [Act.put, List.setIfInBounds_toArray, List.set_cons_zero, List.set_cons_succ]
                  refine hTake (i := 6) (v := ?_) rfl (by kernel_rfl) (by kernel_rfl) (by kernel_rfl) (by rfl) ?_ hH ?_
                  rotate_left
                  · intro W hW; (try dsimp only at hW); go_simp <;> with_reducible rfl
                  simp only [Act.put, List.setIfInBounds_toArray, List.set_cons_zero, List.set_cons_succ]
                  refine hTake (i := 7) (v := ?_) rfl (by kernel_rfl) (by kernel_rfl) (by kernel_rfl) (by rfl) ?_ hH ?_
                  rotate_left
                  · intro W hW; (try dsimp only at hW); go_simp <;> with_reducible rfl
                  simp only [Act.put, List.setIfInBounds_toArray, List.set_cons_zero, List.set_cons_succ]
                  refine hTake (i := 8) (v := ?_) rfl (by kernel_rfl) (by kernel_rfl) (by kernel_rfl) (by rfl) ?_ hH ?_
                  rotate_left
                  · intro W hW; (try dsimp only at hW); go_simp <;> with_reducible rfl
                  simp only [Act.put, List.setIfInBounds_toArray, List.set_cons_zero, List.set_cons_succ]
                  refine hTake (i := 9) (v := ?_) rfl (by kernel_rfl) (by kernel_rfl) (by kernel_rfl) (by rfl) ?_ hH ?_
                  rotate_left
                  · intro W hW; (try dsimp only at hW); go_simp <;> with_reducible rfl
                  simp only [Act.put, List.setIfInBounds_toArray, List.set_cons_zero, List.set_cons_succ]
                  refine hTake (i := 10) (v := ?_) rfl (by kernel_rfl) (by kernel_rfl) (by kernel_rfl) (by rfl) ?_ hH ?_
                  rotate_left
                  · intro W hW; (try dsimp only at hW); go_simp <;> with_reducible rfl
                  simp only [Act.put, List.setIfInBounds_toArray, List.set_cons_zero, List.set_cons_succ]
                  refine wpAnyH_done (by kernel_rfl) ?_ _
                  refine NoPanic.normal ?_
                  go_wp2_with fail
                  obtain ⟨_, _, hB8⟩ := hH
                  refine wp_region_noPanic ?_
                  refine wp_region_held_drew (S := fun W' => W'.cell? ⟨b, off + k * 6, none⟩ = some (.int .i64 tx) ∧ W'.cell? ⟨b, off + k * 6 + 1, none⟩ = some (.int .i64 kd) ∧ W'.cell? ⟨b, off + k * 6 + 1 + 1, none⟩ = some (.int .i64 p) ∧ W'.cell? ⟨b, off + k * 6 + 1 + 2, none⟩ = some (.int .i64 q) ∧ W'.cell? ⟨b, off + k * 6 + 1 + 3, none⟩ = some (.int .i64 v) ∧ W'.cell? ⟨b, off + j * 6, none⟩ = some (.int .i64 ltx) ∧ W'.cell? ⟨b, off + j * 6 + 1, none⟩ = some (.int .i64 lk) ∧ W'.cell? ⟨b, off + j * 6 + 1 + 1, none⟩ = some (.int .i64 la) ∧ W'.cell? ⟨b, off + j * 6 + 1 + 2, none⟩ = some (.int .i64 lb) ∧ W'.cell? ⟨b, off + j * 6 + 1 + 3, none⟩ = some (.int .i64 lv) ∧ Below wx.heap.size wx W') (by kernel_rfl) (⟨hc0, hc1, hc2, hc3, hc4, hd0, hd1, hd2, hd3, hd4, hB8.drew⟩) (fun hH => ?_)
                  refine hTake (i := 0) (v := ?_) rfl (by kernel_rfl) (by kernel_rfl) (by kernel_rfl) (by rfl) ?_ hH ?_
                  rotate_left
                  · intro W hW; (try dsimp only at hW); go_simp <;> with_reducible rfl
                  simp only [Act.put, List.setIfInBounds_toArray, List.set_cons_zero, List.set_cons_succ]
                  refine hTake (i := 1) (v := ?_) rfl (by kernel_rfl) (by kernel_rfl) (by kernel_rfl) (by rfl) ?_ hH ?_
                  rotate_left
                  · intro W hW; (try dsimp only at hW); go_simp <;> with_reducible rfl
                  simp only [Act.put, List.setIfInBounds_toArray, List.set_cons_zero, List.set_cons_succ]
                  refine hTake (i := 2) (v := ?_) rfl (by kernel_rfl) (by kernel_rfl) (by kernel_rfl) (by rfl) ?_ hH ?_
                  rotate_left
                  · intro W hW; (try dsimp only at hW); go_simp <;> with_reducible rfl
                  simp only [Act.put, List.setIfInBounds_toArray, List.set_cons_zero, List.set_cons_succ]
                  refine hTake (i := 3) (v := ?_) rfl (by kernel_rfl) (by kernel_rfl) (by kernel_rfl) (by rfl) ?_ hH ?_
                  rotate_left
                  · intro W hW; (try dsimp only at hW); go_simp <;> with_reducible rfl
                  simp only [Act.put, List.setIfInBounds_toArray, List.set_cons_zero, List.set_cons_succ]
                  refine hTake (i := 4) (v := ?_) rfl (by kernel_rfl) (by kernel_rfl) (by kernel_rfl) (by rfl) ?_ hH ?_
                  rotate_left
                  · intro W hW; (try dsimp only at hW); go_simp <;> with_reducible rfl
                  simp only [Act.put, List.setIfInBounds_toArray, List.set_cons_zero, List.set_cons_succ]
                  refine wpAnyH_ready (rs := [5]) (by kernel_rfl) (by simp) ?_
                  refine AllReadyH.cons rfl (fun K hK => ?_) AllReadyH.nil
                  go_simp
                  refine (IW _).mono ?_
                  rintro e w4 ⟨rfl, b4⟩
                  go_wp2_with fail
                  refine hK.out _ _ ?_ (fun hH => ?_)
                  · exact ⟨keep_cell b4 hH.1, keep_cell b4 hH.2.1, keep_cell b4 hH.2.2.1, keep_cell b4 hH.2.2.2.1, keep_cell b4 hH.2.2.2.2.1, keep_cell b4 hH.2.2.2.2.2.1, keep_cell b4 hH.2.2.2.2.2.2.1, keep_cell b4 hH.2.2.2.2.2.2.2.1, keep_cell b4 hH.2.2.2.2.2.2.2.2.1, keep_cell b4 hH.2.2.2.2.2.2.2.2.2.1, hH.2.2.2.2.2.2.2.2.2.2.trans (b4.mono hH.2.2.2.2.2.2.2.2.2.2.size)⟩
                  clear hK K
                  refine hTake (i := 6) (v := ?_) rfl (by kernel_rfl) (by kernel_rfl) (by kernel_rfl) (by rfl) ?_ hH ?_
                  rotate_left
                  · intro W hW; (try dsimp only at hW); go_simp <;> with_reducible rfl
                  simp only [Act.put, List.setIfInBounds_toArray, List.set_cons_zero, List.set_cons_succ]
                  refine hTake (i := 7) (v := ?_) rfl (by kernel_rfl) (by kernel_rfl) (by kernel_rfl) (by rfl) ?_ hH ?_
                  rotate_left
                  · intro W hW; (try dsimp only at hW); go_simp <;> with_reducible rfl
                  simp only [Act.put, List.setIfInBounds_toArray, List.set_cons_zero, List.set_cons_succ]
                  refine hTake (i := 8) (v := ?_) rfl (by kernel_rfl) (by kernel_rfl) (by kernel_rfl) (by rfl) ?_ hH ?_
                  rotate_left
                  · intro W hW; (try dsimp only at hW); go_simp <;> with_reducible rfl
                  simp only [Act.put, List.setIfInBounds_toArray, List.set_cons_zero, List.set_cons_succ]
                  refine hTake (i := 9) (v := ?_) rfl (by kernel_rfl) (by kernel_rfl) (by kernel_rfl) (by rfl) ?_ hH ?_
                  rotate_left
                  · intro W hW; (try dsimp only at hW); go_simp <;> with_reducible rfl
                  simp only [Act.put, List.setIfInBounds_toArray, List.set_cons_zero, List.set_cons_succ]
                  refine hTake (i := 10) (v := ?_) rfl (by kernel_rfl) (by kernel_rfl) (by kernel_rfl) (by rfl) ?_ hH ?_
                  rotate_left
                  · intro W hW; (try dsimp only at hW); go_simp <;> with_reducible rfl
                  simp only [Act.put, List.setIfInBounds_toArray, List.set_cons_zero, List.set_cons_succ]
                  refine hTake (i := 11) (v := ?_) rfl (by kernel_rfl) (by kernel_rfl) (by kernel_rfl) (by rfl) ?_ hH ?_
                  rotate_left
                  · intro W hW; (try dsimp only at hW); go_simp <;> with_reducible rfl
                  simp only [Act.put, List.setIfInBounds_toArray, List.set_cons_zero, List.set_cons_succ]
                  refine hTake (i := 12) (v := ?_) rfl (by kernel_rfl) (by kernel_rfl) (by kernel_rfl) (by rfl) ?_ hH ?_
                  rotate_left
                  · intro W hW; (try dsimp only at hW); go_simp <;> with_reducible rfl
                  simp only [Act.put, List.setIfInBounds_toArray, List.set_cons_zero, List.set_cons_succ]
                  refine hTake (i := 13) (v := ?_) rfl (by kernel_rfl) (by kernel_rfl) (by kernel_rfl) (by rfl) ?_ hH ?_
                  rotate_left
                  · intro W hW; (try dsimp only at hW); go_simp <;> with_reducible rfl
                  simp only [Act.put, List.setIfInBounds_toArray, List.set_cons_zero, List.set_cons_succ]
                  refine hTake (i := 14) (v := ?_) rfl (by kernel_rfl) (by kernel_rfl) (by kernel_rfl) (by rfl) ?_ hH ?_
                  rotate_left
                  · intro W hW; (try dsimp only at hW); go_simp <;> with_reducible rfl
                  simp only [Act.put, List.setIfInBounds_toArray, List.set_cons_zero, List.set_cons_succ]
                  refine hTake (i := 15) (v := ?_) rfl (by kernel_rfl) (by kernel_rfl) (by kernel_rfl) (by rfl) ?_ hH ?_
                  rotate_left
                  · intro W hW; (try dsimp only at hW); go_simp <;> with_reducible rfl
                  simp only [Act.put, List.setIfInBounds_toArray, List.set_cons_zero, List.set_cons_succ]
                  refine hTake (i := 16) (v := ?_) rfl (by kernel_rfl) (by kernel_rfl) (by kernel_rfl) (by rfl) ?_ hH ?_
                  rotate_left
                  · intro W hW; (try dsimp only at hW); go_simp <;> with_reducible rfl
                  simp only [Act.put, List.setIfInBounds_toArray, List.set_cons_zero, List.set_cons_succ]
                  refine hTake (i := 17) (v := ?_) rfl (by kernel_rfl) (by kernel_rfl) (by kernel_rfl) (by rfl) ?_ hH ?_
                  rotate_left
                  · intro W hW; (try dsimp only at hW); go_simp <;> with_reducible rfl
                  simp only [Act.put, List.setIfInBounds_toArray, List.set_cons_zero, List.set_cons_succ]
                  refine wpAnyH_ready (rs := [18]) (by kernel_rfl) (by simp) ?_
                  refine AllReadyH.cons rfl (fun K hK => ?_) AllReadyH.nil
                  go_simp
                  refine (IT _).mono ?_
                  rintro e w4 ⟨rfl, b4⟩
                  go_wp2_with fail
                  refine hK.out _ _ ?_ (fun hH => ?_)
                  · exact ⟨keep_cell b4 hH.1, keep_cell b4 hH.2.1, keep_cell b4 hH.2.2.1, keep_cell b4 hH.2.2.2.1, keep_cell b4 hH.2.2.2.2.1, keep_cell b4 hH.2.2.2.2.2.1, keep_cell b4 hH.2.2.2.2.2.2.1, keep_cell b4 hH.2.2.2.2.2.2.2.1, keep_cell b4 hH.2.2.2.2.2.2.2.2.1, keep_cell b4 hH.2.2.2.2.2.2.2.2.2.1, hH.2.2.2.2.2.2.2.2.2.2.trans (b4.mono hH.2.2.2.2.2.2.2.2.2.2.size)⟩
                  clear hK K
                  refine hTake (i := 19) (v := ?_) rfl (by kernel_rfl) (by kernel_rfl) (by kernel_rfl) (by rfl) ?_ hH ?_
                  rotate_left
                  · intro W hW; (try dsimp only at hW); go_simp <;> with_reducible rfl
                  simp only [Act.put, List.setIfInBounds_toArray, List.set_cons_zero, List.set_cons_succ]
                  refine wpAnyH_done (by kernel_rfl) ?_ _
                  refine NoPanic.normal ?_
                  obtain ⟨_, _, _, _, _, _, _, _, _, _, hB12⟩ := hH
                  go_wp2
                  go_roundw
                  case rel => exact ⟨false, j + 1, by omega, by omega, rfl, by go_num, hid (fun h => by cases h), hid (fun _ => HQ.out), hBx.trans (hB12.mono hBx.size)⟩
                  case measure => simp [intOf]; omega
              | false =>
                rw [hW] at IW
                have HQ := hid (HN.out (by rw [hW]; rfl))
                clear HN HY
                go_wp2_with fail
                refine wp_region_noPanic ?_
                refine wp_region_held_drew (S := fun W' => W'.cell? ⟨b, off + k * 6, none⟩ = some (.int .i64 tx) ∧ W'.cell? ⟨b, off + j * 6, none⟩ = some (.int .i64 ltx) ∧ Below wx.heap.size wx W') (by kernel_rfl) (⟨hc0, hd0, (Below.refl _ _).drew⟩) (fun hH => ?_)
                refine hTake (i := 0) (v := ?_) rfl (by kernel_rfl) (by kernel_rfl) (by kernel_rfl) (by rfl) ?_ hH ?_
                rotate_left
                · intro W hW; (try dsimp only at hW); go_simp <;> with_reducible rfl
                simp only [Act.put, List.setIfInBounds_toArray, List.set_cons_zero, List.set_cons_succ]
                refine hTake (i := 1) (v := ?_) rfl (by kernel_rfl) (by kernel_rfl) (by kernel_rfl) (by rfl) ?_ hH ?_
                rotate_left
                · intro W hW; (try dsimp only at hW); go_simp <;> with_reducible rfl
                simp only [Act.put, List.setIfInBounds_toArray, List.set_cons_zero, List.set_cons_succ]
                refine hTake (i := 2) (v := ?_) rfl (by kernel_rfl) (by kernel_rfl) (by kernel_rfl) (by rfl) ?_ hH ?_
                rotate_left
                · intro W hW; (try dsimp only at hW); go_simp <;> with_reducible rfl
                simp only [Act.put, List.setIfInBounds_toArray, List.set_cons_zero, List.set_cons_succ]
                refine hTake (i := 3) (v := ?_) rfl (by kernel_rfl) (by kernel_rfl) (by kernel_rfl) (by rfl) ?_ hH ?_
                rotate_left
                · intro W hW; (try dsimp only at hW); go_simp <;> with_reducible rfl
                simp only [Act.put, List.setIfInBounds_toArray, List.set_cons_zero, List.set_cons_succ]
                refine hTake (i := 4) (v := ?_) rfl (by kernel_rfl) (by kernel_rfl) (by kernel_rfl) (by rfl) ?_ hH ?_
                rotate_left
                · intro W hW; (try dsimp only at hW); go_simp <;> with_reducible rfl
                simp only [Act.put, List.setIfInBounds_toArray, List.set_cons_zero, List.set_cons_succ]
                refine hTake (i := 5) (v := ?_) rfl (by kernel_rfl) (by kernel_rfl) (by kernel_rfl) (by rfl) ?_ hH ?_
                rotate_left
                · intro W hW; (try dsimp only at hW); go_simp <;> with_reducible rfl
                simp only [Act.put, List.setIfInBounds_toArray, List.set_cons_zero, List.set_cons_succ]
                refine hTake (i := 6) (v := ?_) rfl (by kernel_rfl) (by kernel_rfl) (by kernel_rfl) (by rfl) ?_ hH ?_
                rotate_left
                · intro W hW; (try dsimp only at hW); go_simp <;> with_reducible rfl
                simp only [Act.put, List.setIfInBounds_toArray, List.set_cons_zero, List.set_cons_succ]
                refine hTake (i := 7) (v := ?_) rfl (by kernel_rfl) (by kernel_rfl) (by kernel_rfl) (by rfl) ?_ hH ?_
                rotate_left
                · intro W hW; (try dsimp only at hW); go_simp <;> with_reducible rfl
                simp only [Act.put, List.setIfInBounds_toArray, List.set_cons_zero, List.set_cons_succ]
                refine hTake (i := 8) (v := ?_) rfl (by kernel_rfl) (by kernel_rfl) (by kernel_rfl) (by rfl) ?_ hH ?_
                rotate_left
                · intro W hW; (try dsimp only at hW); go_simp <;> with_reducible rfl
                simp only [Act.put, List.setIfInBounds_toArray, List.set_cons_zero, List.set_cons_succ]
                refine hTake (i := 9) (v := ?_) rfl (by kernel_rfl) (by kernel_rfl) (by kernel_rfl) (by rfl) ?_ hH ?_
                rotate_left
                · intro W hW; (try dsimp only at hW); go_simp <;> with_reducible rfl
                simp only [Act.put, List.setIfInBounds_toArray, List.set_cons_zero, List.set_cons_succ]
                refine hTake (i := 10) (v := ?_) rfl (by kernel_rfl) (by kernel_rfl) (by kernel_rfl) (by rfl) ?_ hH ?_
                rotate_left
                · intro W hW; (try dsimp only at hW); go_simp <;> with_reducible rfl
                simp only [Act.put, List.setIfInBounds_toArray, List.set_cons_zero, List.set_cons_succ]
                refine wpAnyH_done (by kernel_rfl) ?_ _
                refine NoPanic.normal ?_
                go_wp2_with fail
                obtain ⟨_, _, hB8⟩ := hH
                refine wp_region_noPanic ?_
                refine wp_region_held_drew (S := fun W' => W'.cell? ⟨b, off + k * 6, none⟩ = some (.int .i64 tx) ∧ W'.cell? ⟨b, off + k * 6 + 1, none⟩ = some (.int .i64 kd) ∧ W'.cell? ⟨b, off + k * 6 + 1 + 1, none⟩ = some (.int .i64 p) ∧ W'.cell? ⟨b, off + k * 6 + 1 + 2, none⟩ = some (.int .i64 q) ∧ W'.cell? ⟨b, off + k * 6 + 1 + 3, none⟩ = some (.int .i64 v) ∧ W'.cell? ⟨b, off + j * 6, none⟩ = some (.int .i64 ltx) ∧ W'.cell? ⟨b, off + j * 6 + 1, none⟩ = some (.int .i64 lk) ∧ W'.cell? ⟨b, off + j * 6 + 1 + 1, none⟩ = some (.int .i64 la) ∧ W'.cell? ⟨b, off + j * 6 + 1 + 2, none⟩ = some (.int .i64 lb) ∧ W'.cell? ⟨b, off + j * 6 + 1 + 3, none⟩ = some (.int .i64 lv) ∧ Below wx.heap.size wx W') (by kernel_rfl) (⟨hc0, hc1, hc2, hc3, hc4, hd0, hd1, hd2, hd3, hd4, hB8.drew⟩) (fun hH => ?_)
                refine hTake (i := 0) (v := ?_) rfl (by kernel_rfl) (by kernel_rfl) (by kernel_rfl) (by rfl) ?_ hH ?_
                rotate_left
                · intro W hW; (try dsimp only at hW); go_simp <;> with_reducible rfl
                simp only [Act.put, List.setIfInBounds_toArray, List.set_cons_zero, List.set_cons_succ]
                refine hTake (i := 1) (v := ?_) rfl (by kernel_rfl) (by kernel_rfl) (by kernel_rfl) (by rfl) ?_ hH ?_
                rotate_left
                · intro W hW; (try dsimp only at hW); go_simp <;> with_reducible rfl
                simp only [Act.put, List.setIfInBounds_toArray, List.set_cons_zero, List.set_cons_succ]
                refine hTake (i := 2) (v := ?_) rfl (by kernel_rfl) (by kernel_rfl) (by kernel_rfl) (by rfl) ?_ hH ?_
                rotate_left
                · intro W hW; (try dsimp only at hW); go_simp <;> with_reducible rfl
                simp only [Act.put, List.setIfInBounds_toArray, List.set_cons_zero, List.set_cons_succ]
                refine hTake (i := 3) (v := ?_) rfl (by kernel_rfl) (by kernel_rfl) (by kernel_rfl) (by rfl) ?_ hH ?_
                rotate_left
                · intro W hW; (try dsimp only at hW); go_simp <;> with_reducible rfl
                simp only [Act.put, List.setIfInBounds_toArray, List.set_cons_zero, List.set_cons_succ]
                refine hTake (i := 4) (v := ?_) rfl (by kernel_rfl) (by kernel_rfl) (by kernel_rfl) (by rfl) ?_ hH ?_
                rotate_left
                · intro W hW; (try dsimp only at hW); go_simp <;> with_reducible rfl
                simp only [Act.put, List.setIfInBounds_toArray, List.set_cons_zero, List.set_cons_succ]
                refine wpAnyH_ready (rs := [5]) (by kernel_rfl) (by simp) ?_
                refine AllReadyH.cons rfl (fun K hK => ?_) AllReadyH.nil
                go_simp
                refine (IW _).mono ?_
                rintro e w4 ⟨rfl, b4⟩
                go_wp2_with fail
                refine hK.out _ _ ?_ (fun hH => ?_)
                · exact ⟨keep_cell b4 hH.1, keep_cell b4 hH.2.1, keep_cell b4 hH.2.2.1, keep_cell b4 hH.2.2.2.1, keep_cell b4 hH.2.2.2.2.1, keep_cell b4 hH.2.2.2.2.2.1, keep_cell b4 hH.2.2.2.2.2.2.1, keep_cell b4 hH.2.2.2.2.2.2.2.1, keep_cell b4 hH.2.2.2.2.2.2.2.2.1, keep_cell b4 hH.2.2.2.2.2.2.2.2.2.1, hH.2.2.2.2.2.2.2.2.2.2.trans (b4.mono hH.2.2.2.2.2.2.2.2.2.2.size)⟩
                clear hK K
                refine hTake (i := 6) (v := ?_) rfl (by kernel_rfl) (by kernel_rfl) (by kernel_rfl) (by rfl) ?_ hH ?_
                rotate_left
                · intro W hW; (try dsimp only at hW); go_simp <;> with_reducible rfl
                simp only [Act.put, List.setIfInBounds_toArray, List.set_cons_zero, List.set_cons_succ]
                refine hSkip (i := 7) rfl (by kernel_rfl) (by kernel_rfl) (by kernel_rfl) (by rfl) hH ?_
                simp only [Act.put, List.setIfInBounds_toArray, List.set_cons_zero, List.set_cons_succ]
                refine hSkip (i := 8) rfl (by kernel_rfl) (by kernel_rfl) (by kernel_rfl) (by rfl) hH ?_
                simp only [Act.put, List.setIfInBounds_toArray, List.set_cons_zero, List.set_cons_succ]
                refine hSkip (i := 9) rfl (by kernel_rfl) (by kernel_rfl) (by kernel_rfl) (by rfl) hH ?_
                simp only [Act.put, List.setIfInBounds_toArray, List.set_cons_zero, List.set_cons_succ]
                refine hSkip (i := 10) rfl (by kernel_rfl) (by kernel_rfl) (by kernel_rfl) (by rfl) hH ?_
                simp only [Act.put, List.setIfInBounds_toArray, List.set_cons_zero, List.set_cons_succ]
                refine hSkip (i := 11) rfl (by kernel_rfl) (by kernel_rfl) (by kernel_rfl) (by rfl) hH ?_
                simp only [Act.put, List.setIfInBounds_toArray, List.set_cons_zero, List.set_cons_succ]
                refine hSkip (i := 12) rfl (by kernel_rfl) (by kernel_rfl) (by kernel_rfl) (by rfl) hH ?_
                simp only [Act.put, List.setIfInBounds_toArray, List.set_cons_zero, List.set_cons_succ]
                refine hSkip (i := 13) rfl (by kernel_rfl) (by kernel_rfl) (by kernel_rfl) (by rfl) hH ?_
                simp only [Act.put, List.setIfInBounds_toArray, List.set_cons_zero, List.set_cons_succ]
                refine hSkip (i := 14) rfl (by kernel_rfl) (by kernel_rfl) (by kernel_rfl) (by rfl) hH ?_
                simp only [Act.put, List.setIfInBounds_toArray, List.set_cons_zero, List.set_cons_succ]
                refine hSkip (i := 15) rfl (by kernel_rfl) (by kernel_rfl) (by kernel_rfl) (by rfl) hH ?_
                simp only [Act.put, List.setIfInBounds_toArray, List.set_cons_zero, List.set_cons_succ]
                refine hSkip (i := 16) rfl (by kernel_rfl) (by kernel_rfl) (by kernel_rfl) (by rfl) hH ?_
                simp only [Act.put, List.setIfInBounds_toArray, List.set_cons_zero, List.set_cons_succ]
                refine hSkip (i := 17) rfl (by kernel_rfl) (by kernel_rfl) (by kernel_rfl) (by rfl) hH ?_
                simp only [Act.put, List.setIfInBounds_toArray, List.set_cons_zero, List.set_cons_succ]
                refine hSkip (i := 18) rfl (by kernel_rfl) (by kernel_rfl) (by kernel_rfl) (by rfl) hH ?_
                simp only [Act.put, List.setIfInBounds_toArray, List.set_cons_zero, List.set_cons_succ]
                refine hTake (i := 19) (v := ?_) rfl (by kernel_rfl) (by kernel_rfl) (by kernel_rfl) (by rfl) ?_ hH ?_
                rotate_left
                · intro W hW; (try dsimp only at hW); go_simp <;> with_reducible rfl
                simp only [Act.put, List.setIfInBounds_toArray, List.set_cons_zero, List.set_cons_succ]
                refine wpAnyH_done (by kernel_rfl) ?_ _
                refine NoPanic.normal ?_
                obtain ⟨_, _, _, _, _, _, _, _, _, _, hB12⟩ := hH
                go_wp2
                go_roundw
                case rel => exact ⟨false, j + 1, by omega, by omega, rfl, by go_num, hid (fun h => by cases h), hid (fun _ => HQ.out), hBx.trans (hB12.mono hBx.size)⟩
                case measure => simp [intOf]; omega
        · obtain rfl : j = n := by omega
          have HR : Hid (Ch.strict (ts.drop (k + 1)) = S) := HT.out (by
            cases o with
            | true => exact HO.out rfl
            | false => rw [HJ.out rfl, List.drop_of_length_le (show ts.length ≤ j by have := HL.out; omega)]; rfl)
          go_wp2
          go_roundw
          case rel => exact ⟨k + 1, by omega, by go_num, HR, hBx⟩
          case measure => simp [intOf]; omega
    · obtain rfl : k = n := by omega
      have HQ : Hid (true = S) := by have h1 := HI.out; have h2 := HL.out; rw [h2, List.drop_length] at h1; exact h1
      go_wp2
      go_ret
      exact ⟨ret_boolA HQ.out, hB⟩

set_option maxHeartbeats 1000000 in
theorem specStrict_any (a : Option Addr) (n cap : Nat) (ts : List Ch.Ac) (w : World) (h : AcAt w a n ts) (hn : n ≤ 1048576) :
    Calls Try.prog 23 #[.slice a n cap] w fun e w' => e = .returned (.bool (Ch.strictR ts)) ∧ Below w.heap.size w w' := by
  have IA := fun W hW => specActs_any a n cap ts W hW hn
  by_cases h0 : Ch.acsF ts = 0
  · rw [Ch.strictR_ok h0]
    have IB := fun W hW => l14Strict_any a n cap ts W hW hn h0
    rw [h0] at IA
    generalize Ch.strict ts = S at *
    clear h0
    go_enter Try.func23, Try.ntmps23
    go_wp2_with fail
    refine (IA _ h).mono ?_
    rintro e w1 ⟨rfl, b1⟩
    go_wp2_with fail
    refine (IB _ (h.below b1)).mono ?_
    rintro e w2 ⟨rfl, b2⟩
    go_wp2
    go_ret
    exact ⟨rfl, b1.trans (b2.mono b1.size)⟩
  · have h0' : (Ch.acsF ts == 0) = false := by simpa using h0
    rw [Ch.strictR_bad (by simpa using h0)]
    generalize Ch.acsF ts = c at *
    clear h0
    go_enter Try.func23, Try.ntmps23
    go_wp2_with fail
    refine (IA _ h).mono ?_
    rintro e w1 ⟨rfl, b1⟩
    go_wp2
    go_ret
    exact ⟨rfl, b1⟩
end Go.Proofs.Ytlpncikiaojmiaa

/- The law FnExactStrictActs. -/
namespace Go.Proofs.Ytlpncikiaojmiaa
open Go.RowKit

theorem toActS_at (H : Nat) (a : Option Addr) (n cap : Nat) (ls : List Ch.Ac) (w : World) (hH : w.heap.size = H) (h : AcAt w a n ls) (hs : Ch.acSize ls ≤ 1048576) :
    Calls Try.prog 11 #[.slice a n cap] w fun e w' => e = .returned (.slice (some ⟨H, 0, none⟩) n n) ∧ (∃ vs, OwnAc w' H (.slice (some ⟨H, 0, none⟩) n n) n vs ls) ∧ Below w.heap.size w w' := by
  subst hH
  exact toActS_any a n cap ls w h hs

set_option maxHeartbeats 1000000 in
theorem lawStrict_any (a : Option Addr) (n cap : Nat) (ts : List Ch.Ac) (w : World) (h : AcAt w a n ts) (hm : n ≤ 9223372036854775807) :
    Calls Try.prog 4 #[.slice a n cap] w fun e w' => e = .returned (.bool true) ∧ Below w.heap.size w w' := by
  have HL := h.len
  by_cases hs : Ch.acSize ts ≤ 1048576
  · have hn : n ≤ 1048576 := by have := Ch.acSize_len hs; have := HL.out; omega
    obtain ⟨M, HM⟩ : ∃ M : Nat, Hid (Ch.acLeft 1048576 ts = (M : Int)) := ⟨1048576 - Ch.acSize ts, by show _ = _; rw [Ch.acLeft, if_pos hs]; omega⟩
    have HS := hid hs
    clear hs
    obtain ⟨Z, HZ⟩ : ∃ Z, Hid (Ch.strictR ts = Z) := ⟨_, rfl⟩
    have hzz : (Z != Z) = false := by simp
    have hcm : n ≤ 9223372036854775807 := hm
    go_enter Try.func4, Try.ntmps4
    go_wp2_with fail
    refine (szActS_any a n cap 1048576 ts _ h (Nat.le_refl _) hm).mono ?_
    rintro e w1 ⟨rfl, b1⟩
    rw [HM.out]
    go_wp2_with fail
    refine (toActS_any a n cap ts _ (h.below b1) HS.out).mono ?_
    rintro e w2 ⟨rfl, ⟨vs2, o2⟩, b2⟩
    have B2 := b1.trans (b2.mono b1.size)
    go_wp2_with fail
    refine (specStrict_any _ n n ts _ (o2.at (fun i => by have := Ch.ac_one HS.out i; omega)) hn).mono ?_
    rintro e w3 ⟨rfl, b3⟩
    rw [HZ.out]
    have B3 := B2.trans (b3.mono B2.size)
    clear o2 b1 b2 b3 B2
    go_wp2_with fail
    refine (toActS_any a n cap ts _ (h.below B3) HS.out).mono ?_
    rintro e w4 ⟨rfl, ⟨vs4, o4⟩, b4⟩
    have B4 := B3.trans (b4.mono B3.size)
    have a4 := o4.at (fun i => by have := Ch.ac_one HS.out i; omega)
    clear o4
    go_wp2_with fail
    refine (implStrict_any _ n n ts _ a4 hn (Nat.le_refl _) hcm).mono ?_
    rintro e w5 ⟨rfl, b5⟩
    rw [HZ.out]
    have B5 := B4.trans (b5.mono B4.size)
    go_wp2_with fail
    refine (toActS_any a n cap ts _ (h.below B5) HS.out).mono ?_
    rintro e w6 ⟨rfl, ⟨vs6, o6⟩, b6⟩
    have B6 := B5.trans (b6.mono B5.size)
    go_wp2_with fail
    refine (eqActS_same _ _ n n n ts _ ((a4.below b5).below b6) (o6.at (fun i => by have := Ch.ac_one HS.out i; omega)) HS.out).mono ?_
    rintro e w7 ⟨rfl, b7⟩
    have B7 := B6.trans (b7.mono B6.size)
    go_wp2
    go_ret
    exact ⟨rfl, B7⟩
  · have HM : Hid (Ch.acLeft 1048576 ts = -1) := (Ch.acLeft_big (by omega)).symm
    go_enter Try.func4, Try.ntmps4
    go_wp2_with fail
    refine (szActS_any a n cap 1048576 ts _ h (Nat.le_refl _) hm).mono ?_
    rintro e w1 ⟨rfl, b1⟩
    rw [HM.out]
    go_wp2
    go_ret
    exact ⟨rfl, b1⟩
end Go.Proofs.Ytlpncikiaojmiaa

