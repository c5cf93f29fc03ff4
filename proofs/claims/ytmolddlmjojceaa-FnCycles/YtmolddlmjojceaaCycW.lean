
/- l7Cycle of the model. -/
import Derived.Test.YtmolddlmjojceaaNexW
namespace Go.Proofs.Ytmolddlmjojceaa
open Go.RowKit

theorem Ch.size_to {f : Int → Int} {t r : Int} (hf : ∀ x, f x ≤ r) : ∀ (es : List (Int × Int)) (s : Int), s ≤ r → es.foldl (Ch.sizeS f t) s ≤ r := by
  intro es
  induction es with
  | nil => exact fun s h => h
  | cons e es ih =>
    intro s h
    rw [List.foldl_cons]
    apply ih
    unfold Ch.sizeS
    split
    · exact hf _
    · exact h
theorem Ch.walk_len (es : List (Int × Int)) (f : Int → Int) : ∀ k x, (Ch.walkM es f k x).length = k := by
  intro k
  induction k with
  | zero => intro x; rfl
  | succ k ih => intro x; show (_ :: _).length = _; rw [List.length_cons, ih]

set_option linter.unusedSimpArgs false in
set_option maxRecDepth 20000 in
set_option maxHeartbeats 8000000 in
theorem l7Cycle_any (a : Option Addr) (n cap : Nat) (es : List Ch.Hold) (t : Int) (w : World) (h : CellsAt w a (n * 2) (hcells es)) (hn : n ≤ 400) (hin : ∀ k, k < n → 1 ≤ (es.getD k Ch.Hold.zero).t ∧ (es.getD k Ch.Hold.zero).t ≤ 999 ∧ 1 ≤ (es.getD k Ch.Hold.zero).m ∧ (es.getD k Ch.Hold.zero).m ≤ 999) (ht : 1 ≤ t ∧ t ≤ 999) :
    Calls Try.prog 20 #[.slice a n cap, .int .i64 t] w fun e w' => ∃ a' m c', e = .returned (.slice a' m c') ∧ m ≤ 401 ∧ m = (Ch.cycM (Ch.prE es) t).length ∧ w'.ownsRow w.heap.size 2 1 (.slice a' m c') m (icells (Ch.cycM (Ch.prE es) t)) ∧ Below w.heap.size w w' := by
  have HL := h.hlen
  have HLp : Hid ((Ch.prE es).length = n) := by show _ = _; simp [Ch.prE]; exact HL.out.symm
  have IF := l7Far_any a n cap es t w h hn hin ht
  obtain ⟨f, HF⟩ : ∃ f, Hid (Ch.farN (Ch.prE es) t n = f) := ⟨_, rfl⟩
  have HC : Hid (Ch.cycM (Ch.prE es) t = if (Ch.prE es).foldl (Ch.sizeS f t) (-1) < 0 then [] else t :: Ch.walkM (Ch.prE es) f ((Ch.prE es).foldl (Ch.sizeS f t) (-1)).toNat t) := by
    show _ = _
    unfold Ch.cycM
    rw [HLp.out, HF.out]
    rfl
  have HI : Hid (∀ x, f x ≤ (n : Int)) := by
    intro x
    have := (Ch.farN_to (Ch.prE es) t n).high x
    rw [HF.out] at this
    exact this
  rw [HF.out] at IF
  clear HF
  have HW := hid (Ch.walk_len (Ch.prE es) f)
  obtain ⟨i0, hi0, hz0, hz1, hz2⟩ := info_parts Try.info2
  go_enter Try.func20, Try.ntmps20
  go_wp2_with fail
  refine IF.mono ?_
  rintro e w1 ⟨g, c1, rfl, own1, b1⟩
  have hF := owns_cells own1
  have hb := h.below b1
  clear IF own1
  go_wp2
  go_loop [6, 7] (fun q i => ∃ k : Nat, k ≤ n ∧ i = .int .i64 k ∧ q = .int .i64 (((Ch.prE es).take k).foldl (Ch.sizeS f t) (-1))) (fun _ i => n - (intOf i).toNat)
  case atStart => exact ⟨0, Nat.zero_le _, rfl, rfl⟩
  case round =>
    obtain ⟨k, hk, rfl, rfl⟩ := hrel
    by_cases hlt : k < n
    · have hkl : k < es.length := by have := HL.out; omega
      have HT := hid (Ch.fold_take hkl (Ch.sizeS f t) (-1))
      have hb4 := hin k hlt
      obtain ⟨b, off, rfl, q0, q1⟩ := hb.hold hlt
      have hbl := lt_of_cell q0
      generalize es.getD k Ch.Hold.zero = ed at *
      obtain ⟨rt, rm⟩ := ed
      simp only at q0 q1 HT hb4
      obtain ⟨xm, rfl⟩ : ∃ y : Nat, rm = (y : Int) := ⟨rm.toNat, by omega⟩
      have hxm : xm < 1000 := by omega
      obtain ⟨b2, o2, e2, m0⟩ := hF.int (k := xm) (by omega)
      cases e2
      rw [Nat.zero_add, Ch.lst_get f hxm] at m0
      have hgz := lt_of_cell m0
      generalize ((Ch.prE es).take k).foldl (Ch.sizeS f t) (-1) = B at *
      have HS : Hid (Ch.sizeS f t B (rt, (xm : Int)) = if rt = t ∧ 0 ≤ f xm ∧ (B < 0 ∨ f xm < B) then f xm else B) := rfl
      generalize f xm = fm at *
      clear hb4 HW HI HC
      by_cases h1 : rt = t
      · have d1 : (rt == t) = true := by simpa using h1
        by_cases h2 : 0 ≤ fm
        · by_cases h3 : B < 0
          · rw [if_pos ⟨h1, h2, .inl h3⟩] at HS
            clear h1
            go_wp2
            go_round
            case rel => exact ⟨k + 1, by omega, by go_num, by rw [HT.out, HS.out]⟩
            case measure => simp [intOf]; omega
          · by_cases h4 : fm < B
            · rw [if_pos ⟨h1, h2, .inr h4⟩] at HS
              clear h1
              go_wp2
              go_round
              case rel => exact ⟨k + 1, by omega, by go_num, by rw [HT.out, HS.out]⟩
              case measure => simp [intOf]; omega
            · rw [if_neg (fun hh => hh.2.2.elim h3 h4)] at HS
              clear h1
              go_wp2
              go_round
              case rel => exact ⟨k + 1, by omega, by go_num, by rw [HT.out, HS.out]⟩
              case measure => simp [intOf]; omega
        · rw [if_neg (fun hh => h2 hh.2.1)] at HS
          clear h1
          go_wp2
          go_round
          case rel => exact ⟨k + 1, by omega, by go_num, by rw [HT.out, HS.out]⟩
          case measure => simp [intOf]; omega
      · have d1 : (rt == t) = false := by simpa using h1
        rw [if_neg (fun hh => h1 hh.1)] at HS
        clear h1
        go_wp2
        go_round
        case rel => exact ⟨k + 1, by omega, by go_num, by rw [HT.out, HS.out]⟩
        case measure => simp [intOf]; omega
    · obtain rfl : k = n := by omega
      rw [List.take_of_length_le (by have := HLp.out; omega)]
      have hsz := Ch.size_to (t := t) HI.out (Ch.prE es) (-1) (by omega)
      generalize (Ch.prE es).foldl (Ch.sizeS f t) (-1) = sz at *
      by_cases hneg : sz < 0
      · rw [if_pos hneg] at HC
        go_wp2
        go_ret
        exact ⟨none, 0, 0, rfl, by omega, by rw [HC.out]; rfl, by rw [HC.out]; exact World.ownsRow_nil _ _ _ _, b1⟩
      · obtain ⟨s, rfl⟩ : ∃ s : Nat, sz = (s : Int) := ⟨sz.toNat, by omega⟩
        rw [if_neg hneg, Int.toNat_natCast] at HC
        have hs4 : s ≤ 400 := by omega
        clear hsz HI
        have oL : (w1.alloc (.cells #[.int .i64 t] 2)).ownsRow w1.heap.size 2 1 (.slice (some ⟨w1.heap.size, 0, none⟩) 1 1) 1 (icells [t]) := World.ownsRow_lit w1 #[.int .i64 t] 1 (Nat.le_refl _) (by unfold maxLen; omega) rfl
        have bL : Below w1.heap.size w1 (w1.alloc (.cells #[.int .i64 t] 2)) := (Below.refl _ _).alloc (Nat.le_refl _) _
        go_wp2
        go_loopw [9, 10, 11] (fun q at_ kk wx => ∃ (j : Nat) (x : Int) (a' : Option Addr) (c' m : Nat) (pre : List Int), j + m = s + 1 ∧ q = .slice a' m c' ∧ at_ = .int .i64 x ∧ kk = .int .i64 j ∧ wx.ownsRow w1.heap.size 2 1 (.slice a' m c') m (icells pre) ∧ Hid (pre ++ Ch.walkM (Ch.prE es) f j x = t :: Ch.walkM (Ch.prE es) f s t) ∧ Below w1.heap.size w1 wx) (fun _ _ kk _ => (intOf kk).toNat)
        case atStart => exact ⟨s, t, _, _, 1, [t], by omega, rfl, rfl, rfl, oL, rfl, bL⟩
        case round =>
          clear oL bL
          obtain ⟨j, x, a', c', m, pre, hjm, rfl, rfl, rfl, own2, HP, hB2⟩ := hrel
          cases j with
          | zero =>
            have HP' : Hid (pre = t :: Ch.walkM (Ch.prE es) f s t) := by have := HP.out; rw [show Ch.walkM (Ch.prE es) f 0 x = [] from rfl, List.append_nil] at this; exact this
            go_wp2
            go_ret
            refine ⟨a', m, c', rfl, by omega, ?_, ?_, b1.trans (hB2.mono b1.size)⟩
            · rw [HC.out, List.length_cons, HW.out]; omega
            · rw [HC.out, ← HP'.out]; exact owns_base own2 b1.size
          | succ j =>
            have IN := l7Next_any a k cap es x ((j : Int) + 1) g c1 f wr (hb.below hB2) hn hin (hF.below hB2)
            have HP' : Hid ((pre ++ [Ch.nextM (Ch.prE es) f x ((j : Int) + 1)]) ++ Ch.walkM (Ch.prE es) f j (Ch.nextM (Ch.prE es) f x ((j : Int) + 1)) = t :: Ch.walkM (Ch.prE es) f s t) := by
              have := HP.out
              rw [show Ch.walkM (Ch.prE es) f (j + 1) x = Ch.nextM (Ch.prE es) f x ((j : Int) + 1) :: Ch.walkM (Ch.prE es) f j (Ch.nextM (Ch.prE es) f x ((j : Int) + 1)) from rfl] at this
              show _ = _
              rw [List.append_assoc]
              exact this
            clear HP
            generalize Ch.nextM (Ch.prE es) f x ((j : Int) + 1) = y at *
            have hj4 : j ≤ 400 := by omega
            go_wp2_with fail
            refine IN.mono ?_
            rintro e w2 ⟨rfl, rfl⟩
            clear IN
            have kN : Below w2.heap.size w2 (w2.alloc (.cells #[.int .i64 y] 2)) := (Below.refl _ _).alloc (Nat.le_refl _) _
            have oN := owns_below own2 kN
            have hb3 : w1.heap.size ≤ (w2.alloc (.cells #[.int .i64 y] 2)).heap.size := by have := hB2.size; simp; omega
            have hsum : m + 1 ≤ 4194304 := by omega
            go_wp2_with (at_builtin; go_must (refine wpList_appX Try.underlying27 Try.underlying27 hi0 hz0 hz1 hz2 rfl (by omega) (by omega) (.tmp 65) (.tmp 67) ?_ ?_ w1.heap.size (.slice a' m c') m (icells pre) _ 1 1 (icells [y]) ?_ ?_ oN (new_one w2 y 2) (icells_one' [y]) hsum hb3 ?_; exact rfl; exact rfl; exact rfl; exact rfl; intro a5 c5 w5 own5 gr5 at5))
            go_roundw
            case rel =>
              rw [← icells_append] at own5
              have bN := hB2.trans (kN.mono hB2.size)
              exact ⟨j, y, a5, c5, m + 1, pre ++ [y], by omega, rfl, rfl, by go_num, own5, HP'.out, bN.grown gr5 bN.size (fun g hg => (owns_lt own2 g hg).1)⟩
            case measure => simp [intOf]
end Go.Proofs.Ytmolddlmjojceaa
