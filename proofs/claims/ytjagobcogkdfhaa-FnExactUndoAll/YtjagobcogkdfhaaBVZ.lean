/- Several texts in one: BfB, ValW. -/
import Derived.Test.YtjagobcogkdfhaaUnM
import Derived.Test.YtjagobcogkdfhaaFindI


/- BeforesFault of the program and of the model. -/
namespace Go.Proofs.Ytjagobcogkdfhaa
open Go.RowKit

theorem Ch.bf_range {k v : Int} {h : Bool} (hr : (!Ch.inB k 0 99 || !Ch.inB v 0 9999) = true) : (⟨k, h, v⟩ : Ch.Bf).fault = 3 := by
  unfold Ch.Bf.fault; rw [if_pos hr]
theorem Ch.bf_form {k v : Int} {h : Bool} (hr : (!Ch.inB k 0 99 || !Ch.inB v 0 9999) = false) (hf : (!h && v != 0) = true) : (⟨k, h, v⟩ : Ch.Bf).fault = 1 := by
  unfold Ch.Bf.fault; rw [if_neg (by rw [hr]; exact Bool.false_ne_true), if_pos hf]
theorem Ch.bf_fine {k v : Int} {h : Bool} (hr : (!Ch.inB k 0 99 || !Ch.inB v 0 9999) = false) (hf : (!h && v != 0) = false) : (⟨k, h, v⟩ : Ch.Bf).fault = 0 := by
  unfold Ch.Bf.fault; rw [if_neg (by rw [hr]; exact Bool.false_ne_true), if_neg (by rw [hf]; exact Bool.false_ne_true)]

set_option maxHeartbeats 2000000 in
theorem implBefores_any (a : Option Addr) (n cap : Nat) (bs : List Ch.Bf) (w : World) (h : CellsAt w a (n * 3) (bfcells bs)) (hn : n ≤ 1048576) :
    Calls Try.prog 45 #[.slice a n cap] w fun e w' => e = .returned (.int .i64 (Ch.befFault bs)) ∧ Below w.heap.size w w' := by
  have HL := h.bflen
  by_cases hbig : 40 < n
  · have HF : Hid (Ch.befFault bs = 2) := Ch.bef_big (by have := HL.out; omega)
    go_enter Try.func45, Try.ntmps45
    go_wp2
    go_ret
    exact ⟨ret_int HF.out.symm, Below.refl _ _⟩
  have hn4 : n ≤ 40 := by omega
  clear hbig
  have HF := hid (Ch.bef_few (bs := bs) (by have := HL.out; omega))
  go_enter Try.func45, Try.ntmps45
  go_wp2
  go_loopw [10] (fun i wr => ∃ k : Nat, k ≤ n ∧ i = .int .i64 k ∧ Hid (Ch.befFault bs = Ch.befOne (bs.drop k)) ∧ Below w.heap.size w wr) (fun i _ => n - (intOf i).toNat)
  case atStart => exact ⟨0, Nat.zero_le _, rfl, HF.out, Below.refl _ _⟩
  case round =>
    clear HF
    obtain ⟨k, hk, rfl, HH, hB⟩ := hrel
    by_cases hlt : k < n
    · have hkl : k < bs.length := by have := HL.out; omega
      have HS := hid (fun he => HH.out.trans (Ch.bef_at hkl he))
      have HN := hid (fun he => HH.out.trans (Ch.bef_on hkl he))
      obtain ⟨b, off, rfl, q0, q1, q2⟩ := (h.below hB).bef hlt
      have hbl := lt_of_cell q0
      generalize bs.getD k Ch.Bf.zero = r at *
      obtain ⟨rk, rh, rv⟩ := r
      simp only at q0 q1 q2
      have IT := fun W => isKey_any rk W
      have IM := fun W => isValue_any rv W
      cases ht : Ch.inB rk 0 99
      · rw [ht] at IT
        have HX := hid (Ch.bf_range (k := rk) (v := rv) (h := rh) (by rw [ht]; rfl))
        replace HS := hid (HS.out (by rw [HX.out]; rfl))
        clear HN IM
        go_wp2_with fail
        refine (IT _).mono ?_
        rintro e w' ⟨rfl, rfl⟩
        go_wp2
        go_ret
        exact ⟨ret_int (HS.out.trans HX.out).symm, hB.alloc hB.size _⟩
      rw [ht] at IT
      cases hm : Ch.inB rv 0 9999
      · rw [hm] at IM
        have HX := hid (Ch.bf_range (k := rk) (v := rv) (h := rh) (by rw [ht, hm]; rfl))
        replace HS := hid (HS.out (by rw [HX.out]; rfl))
        clear HN
        go_wp2_with fail
        refine (IT _).mono ?_
        rintro e w' ⟨rfl, rfl⟩
        go_wp2_with fail
        refine (IM _).mono ?_
        rintro e w' ⟨rfl, rfl⟩
        go_wp2
        go_ret
        exact ⟨ret_int (HS.out.trans HX.out).symm, hB.alloc hB.size _⟩
      rw [hm] at IM
      cases rh
      · cases hv : (rv != 0)
        · have HX := hid (Ch.bf_fine (k := rk) (v := rv) (h := false) (by rw [ht, hm]; rfl) (by rw [hv]; rfl))
          replace HN := hid (HN.out (by rw [HX.out]; rfl))
          clear HS
          go_wp2_with fail
          refine (IT _).mono ?_
          rintro e w' ⟨rfl, rfl⟩
          go_wp2_with fail
          refine (IM _).mono ?_
          rintro e w' ⟨rfl, rfl⟩
          go_wp2
          go_roundw
          case rel => exact ⟨k + 1, by omega, by go_num, HN.out, hB.alloc hB.size _⟩
          case measure => simp [intOf]; omega
        · have HX := hid (Ch.bf_form (k := rk) (v := rv) (h := false) (by rw [ht, hm]; rfl) (by rw [hv]; rfl))
          replace HS := hid (HS.out (by rw [HX.out]; rfl))
          clear HN
          go_wp2_with fail
          refine (IT _).mono ?_
          rintro e w' ⟨rfl, rfl⟩
          go_wp2_with fail
          refine (IM _).mono ?_
          rintro e w' ⟨rfl, rfl⟩
          go_wp2
          go_ret
          exact ⟨ret_int (HS.out.trans HX.out).symm, hB.alloc hB.size _⟩
      · have HX := hid (Ch.bf_fine (k := rk) (v := rv) (h := true) (by rw [ht, hm]; rfl) rfl)
        replace HN := hid (HN.out (by rw [HX.out]; rfl))
        clear HS
        go_wp2_with fail
        refine (IT _).mono ?_
        rintro e w' ⟨rfl, rfl⟩
        go_wp2_with fail
        refine (IM _).mono ?_
        rintro e w' ⟨rfl, rfl⟩
        go_wp2
        go_roundw
        case rel => exact ⟨k + 1, by omega, by go_num, HN.out, hB.alloc hB.size _⟩
        case measure => simp [intOf]; omega
    · obtain rfl : k = n := by omega
      have HZ := hid (HH.out.trans (Ch.bef_end (by have := HL.out; omega)))
      go_wp2
      go_ret
      exact ⟨ret_int HZ.out.symm, hB⟩

/-! The model -/

set_option maxHeartbeats 2000000 in
theorem specBefores_any (a : Option Addr) (n cap : Nat) (bs : List Ch.Bf) (w : World) (h : CellsAt w a (n * 3) (bfcells bs)) (hn : n ≤ 1048576) :
    Calls Try.prog 55 #[.slice a n cap] w fun e w' => e = .returned (.int .i64 (Ch.befFault bs)) ∧ Below w.heap.size w w' := by
  have HL := h.bflen
  by_cases hbig : 40 < n
  · have HF : Hid (Ch.befFault bs = 2) := Ch.bef_big (by have := HL.out; omega)
    go_enter Try.func55, Try.ntmps55
    go_wp2
    go_ret
    exact ⟨ret_int HF.out.symm, Below.refl _ _⟩
  have hn4 : n ≤ 40 := by omega
  clear hbig
  have HF := hid (Ch.bef_few (bs := bs) (by have := HL.out; omega))
  go_enter Try.func55, Try.ntmps55
  go_wp2
  go_loopw [3] (fun i wr => ∃ k : Nat, k ≤ n ∧ i = .int .i64 k ∧ Hid (Ch.befFault bs = Ch.befOne (bs.drop k)) ∧ Below w.heap.size w wr) (fun i _ => n - (intOf i).toNat)
  case atStart => exact ⟨0, Nat.zero_le _, rfl, HF.out, Below.refl _ _⟩
  case round =>
    clear HF
    obtain ⟨k, hk, rfl, HH, hB⟩ := hrel
    by_cases hlt : k < n
    · have hkl : k < bs.length := by have := HL.out; omega
      have HS := hid (fun he => HH.out.trans (Ch.bef_at hkl he))
      have HN := hid (fun he => HH.out.trans (Ch.bef_on hkl he))
      obtain ⟨b, off, rfl, q0, q1, q2⟩ := (h.below hB).bef hlt
      have hbl := lt_of_cell q0
      generalize bs.getD k Ch.Bf.zero = r at *
      obtain ⟨rk, rh, rv⟩ := r
      simp only at q0 q1 q2
      have IT := fun W => key_any rk W
      have IM := fun W => value_any rv W
      cases ht : Ch.inB rk 0 99
      · rw [ht] at IT
        have HX := hid (Ch.bf_range (k := rk) (v := rv) (h := rh) (by rw [ht]; rfl))
        replace HS := hid (HS.out (by rw [HX.out]; rfl))
        clear HN IM
        go_wp2_with fail
        refine (IT _).mono ?_
        rintro e w' ⟨rfl, rfl⟩
        go_wp2
        go_ret
        exact ⟨ret_int (HS.out.trans HX.out).symm, hB⟩
      rw [ht] at IT
      cases hm : Ch.inB rv 0 9999
      · rw [hm] at IM
        have HX := hid (Ch.bf_range (k := rk) (v := rv) (h := rh) (by rw [ht, hm]; rfl))
        replace HS := hid (HS.out (by rw [HX.out]; rfl))
        clear HN
        go_wp2_with fail
        refine (IT _).mono ?_
        rintro e w' ⟨rfl, rfl⟩
        go_wp2_with fail
        refine (IM _).mono ?_
        rintro e w' ⟨rfl, rfl⟩
        go_wp2
        go_ret
        exact ⟨ret_int (HS.out.trans HX.out).symm, hB⟩
      rw [hm] at IM
      cases rh
      · cases hv : (rv != 0)
        · have HX := hid (Ch.bf_fine (k := rk) (v := rv) (h := false) (by rw [ht, hm]; rfl) (by rw [hv]; rfl))
          replace HN := hid (HN.out (by rw [HX.out]; rfl))
          clear HS
          go_wp2_with fail
          refine (IT _).mono ?_
          rintro e w' ⟨rfl, rfl⟩
          go_wp2_with fail
          refine (IM _).mono ?_
          rintro e w' ⟨rfl, rfl⟩
          go_wp2
          go_roundw
          case rel => exact ⟨k + 1, by omega, by go_num, HN.out, hB⟩
          case measure => simp [intOf]; omega
        · have HX := hid (Ch.bf_form (k := rk) (v := rv) (h := false) (by rw [ht, hm]; rfl) (by rw [hv]; rfl))
          replace HS := hid (HS.out (by rw [HX.out]; rfl))
          clear HN
          go_wp2_with fail
          refine (IT _).mono ?_
          rintro e w' ⟨rfl, rfl⟩
          go_wp2_with fail
          refine (IM _).mono ?_
          rintro e w' ⟨rfl, rfl⟩
          go_wp2
          go_ret
          exact ⟨ret_int (HS.out.trans HX.out).symm, hB⟩
      · have HX := hid (Ch.bf_fine (k := rk) (v := rv) (h := true) (by rw [ht, hm]; rfl) rfl)
        replace HN := hid (HN.out (by rw [HX.out]; rfl))
        clear HS
        go_wp2_with fail
        refine (IT _).mono ?_
        rintro e w' ⟨rfl, rfl⟩
        go_wp2_with fail
        refine (IM _).mono ?_
        rintro e w' ⟨rfl, rfl⟩
        go_wp2
        go_roundw
        case rel => exact ⟨k + 1, by omega, by go_num, HN.out, hB⟩
        case measure => simp [intOf]; omega
    · obtain rfl : k = n := by omega
      have HZ := hid (HH.out.trans (Ch.bef_end (by have := HL.out; omega)))
      go_wp2
      go_ret
      exact ⟨ret_int HZ.out.symm, hB⟩
end Go.Proofs.Ytjagobcogkdfhaa


/- ValueIn and BeforeOf, of the program and of the model. -/
namespace Go.Proofs.Ytjagobcogkdfhaa
open Go.RowKit

/-- A box of two cells, behind what only makes memory. -/
theorem two_box {w w1 : World} {t : TypeId} {c0 c1 : Value} (b : Below (w.alloc (.cells #[c0, c1] t)).heap.size (w.alloc (.cells #[c0, c1] t)) w1) :
    w1.cell? ⟨w.heap.size, 0, none⟩ = some c0 ∧ w1.cell? ⟨w.heap.size, 1, none⟩ = some c1 ∧ w1.frozen? ⟨w.heap.size, 0, none⟩ = false ∧ w1.frozen? ⟨w.heap.size, 1, none⟩ = false := by
  obtain ⟨cA, fA⟩ := bcell b
  have x0 := cA w.heap.size 0 (by simp)
  have x1 := cA w.heap.size 1 (by simp)
  have f0 := fA w.heap.size 0 (by simp)
  have f1 := fA w.heap.size 1 (by simp)
  simp [go_sem] at x0 x1 f0 f1
  exact ⟨x0, x1, f0, f1⟩
/-- A box of three cells, behind what only makes memory. -/
theorem three_box {w w1 : World} {t : TypeId} {c0 c1 c2 : Value} (b : Below (w.alloc (.cells #[c0, c1, c2] t)).heap.size (w.alloc (.cells #[c0, c1, c2] t)) w1) :
    w1.cell? ⟨w.heap.size, 0, none⟩ = some c0 ∧ w1.cell? ⟨w.heap.size, 1, none⟩ = some c1 ∧ w1.cell? ⟨w.heap.size, 2, none⟩ = some c2 ∧ w1.frozen? ⟨w.heap.size, 0, none⟩ = false ∧ w1.frozen? ⟨w.heap.size, 1, none⟩ = false ∧ w1.frozen? ⟨w.heap.size, 2, none⟩ = false := by
  obtain ⟨cA, fA⟩ := bcell b
  have x0 := cA w.heap.size 0 (by simp)
  have x1 := cA w.heap.size 1 (by simp)
  have x2 := cA w.heap.size 2 (by simp)
  have f0 := fA w.heap.size 0 (by simp)
  have f1 := fA w.heap.size 1 (by simp)
  have f2 := fA w.heap.size 2 (by simp)
  simp [go_sem] at x0 x1 x2 f0 f1 f2
  exact ⟨x0, x1, x2, f0, f1, f2⟩

set_option linter.unusedSimpArgs false in
set_option maxHeartbeats 2000000 in
theorem implValueIn_any (a : Option Addr) (n cap : Nat) (key : Int) (ls : List (List Ch.Row)) (w : World) (h : LvAt w a n ls) (hs : Ch.lvSize ls ≤ 1048576) :
    Calls Try.prog 40 #[.slice a n cap, .int .i64 key] w fun e w' => e = .returned (.agg #[.int .i64 (Ch.valR ls key).1, .int .i64 (Ch.valR ls key).2]) ∧ Below w.heap.size w w' := by
  have b0 : Below w.heap.size w (w.alloc (.cells #[.int .i64 0, .int .i64 0] 43)) := (Below.refl _ _).alloc (Nat.le_refl _) _
  have FI := fun W hW => implFindRow_any a n cap key ls W hW hs
  cases hc : (Ch.asked ls key != 0)
  · cases hf : Ch.findR ls key with
    | none =>
      rw [Ch.valR_none hc (Ch.has_none hf)]
      rw [Ch.findRR_none hc hf] at FI
      clear hc hf
      go_enter Try.func40, Try.ntmps40
      go_wp2_with fail
      refine (FI _ (h.below b0)).mono ?_
      rintro e w1 ⟨a', m, c', rfl, hm, own, b1⟩
      obtain ⟨x0, x1, f0, f1⟩ := two_box b1
      have hz := lt_of_cell x0
      have bE := b0.trans (b1.mono b0.size)
      clear b1 own FI
      go_wp2
      exact bodyPost_ret (v := .agg #[.int .i64 4, .int .i64 0]) (by simp [results, Try.results40, go_sem, x0, x1, hz]) rfl ⟨rfl, Below.alloc ((bE.setCell (p := ⟨w.heap.size, 0, none⟩) (Nat.le_refl _) _).setCell (p := ⟨w.heap.size, 1, none⟩) (Nat.le_refl _) _) (by simp; omega) _⟩
    | some r =>
      obtain ⟨rk, rv, rg⟩ := r
      rw [Ch.findRR_some hc hf] at FI
      cases rg
      · rw [Ch.valR_some hc (Ch.has_row hf)]
        clear hc hf
        go_enter Try.func40, Try.ntmps40
        go_wp2_with fail
        refine (FI _ (h.below b0)).mono ?_
        rintro e w1 ⟨a', m, c', rfl, hm, own, b1⟩
        obtain ⟨x0, x1, f0, f1⟩ := two_box b1
        have hz := lt_of_cell x0
        have bE := b0.trans (b1.mono b0.size)
        have hm1 : m = 1 := (owns_cells own).rlen.out
        subst hm1
        obtain ⟨b, off, rfl, q0, q1, q2⟩ := (owns_cells own).row (k := 0) (by omega)
        simp only [Nat.zero_mul, Nat.add_zero, List.getD_cons_zero] at q0 q1 q2
        have hq := lt_of_cell q0
        clear b1 own FI
        go_wp2
        exact bodyPost_ret (v := .agg #[.int .i64 0, .int .i64 rv]) (by simp [results, Try.results40, go_sem, x0, x1, hz]) rfl ⟨rfl, Below.alloc ((bE.setCell (p := ⟨w.heap.size, 0, none⟩) (Nat.le_refl _) _).setCell (p := ⟨w.heap.size, 1, none⟩) (Nat.le_refl _) _) (by simp; omega) _⟩
      · rw [Ch.valR_none hc (Ch.has_ghost hf)]
        clear hc hf
        go_enter Try.func40, Try.ntmps40
        go_wp2_with fail
        refine (FI _ (h.below b0)).mono ?_
        rintro e w1 ⟨a', m, c', rfl, hm, own, b1⟩
        obtain ⟨x0, x1, f0, f1⟩ := two_box b1
        have hz := lt_of_cell x0
        have bE := b0.trans (b1.mono b0.size)
        have hm1 : m = 1 := (owns_cells own).rlen.out
        subst hm1
        obtain ⟨b, off, rfl, q0, q1, q2⟩ := (owns_cells own).row (k := 0) (by omega)
        simp only [Nat.zero_mul, Nat.add_zero, List.getD_cons_zero] at q0 q1 q2
        have hq := lt_of_cell q0
        clear b1 own FI
        go_wp2
        exact bodyPost_ret (v := .agg #[.int .i64 4, .int .i64 0]) (by simp [results, Try.results40, go_sem, x0, x1, hz]) rfl ⟨rfl, Below.alloc ((bE.setCell (p := ⟨w.heap.size, 0, none⟩) (Nat.le_refl _) _).setCell (p := ⟨w.heap.size, 1, none⟩) (Nat.le_refl _) _) (by simp; omega) _⟩
  · rw [Ch.valR_code hc]
    rw [Ch.findRR_code hc] at FI
    generalize Ch.asked ls key = c at *
    go_enter Try.func40, Try.ntmps40
    go_wp2_with fail
    refine (FI _ (h.below b0)).mono ?_
    rintro e w1 ⟨a', m, c', rfl, hm, own, b1⟩
    obtain ⟨x0, x1, f0, f1⟩ := two_box b1
    have hz := lt_of_cell x0
    have bE := b0.trans (b1.mono b0.size)
    clear b1 own FI
    go_wp2
    exact bodyPost_ret (v := .agg #[.int .i64 c, .int .i64 0]) (by simp [results, Try.results40, go_sem, x0, x1, hz]) rfl ⟨rfl, Below.alloc ((bE.setCell (p := ⟨w.heap.size, 0, none⟩) (Nat.le_refl _) _).setCell (p := ⟨w.heap.size, 1, none⟩) (Nat.le_refl _) _) (by simp; omega) _⟩

theorem Ch.bf_some {key v : Int} : Ch.bf key (some v) = ⟨key, true, v⟩ := rfl
theorem Ch.bf_none {key : Int} : Ch.bf key none = ⟨key, false, 0⟩ := rfl

set_option linter.unusedSimpArgs false in
set_option maxHeartbeats 2000000 in
theorem implBeforeOf_any (a : Option Addr) (n cap : Nat) (key : Int) (ls : List (List Ch.Row)) (w : World) (h : LvAt w a n ls) (hs : Ch.lvSize ls ≤ 1048576) :
    Calls Try.prog 39 #[.slice a n cap, .int .i64 key] w fun e w' => e = .returned (.agg #[.int .i64 (Ch.bfOf ls key).k, .bool (Ch.bfOf ls key).h, .int .i64 (Ch.bfOf ls key).v]) ∧ Below w.heap.size w w' := by
  have b0 : ∀ t, Below w.heap.size w ((w.alloc (.cells #[.int .i64 0, .bool false, .int .i64 0] 64)).alloc (.cells #[.int .i64 key] t)) := fun t => Below.alloc (Below.alloc (Below.refl _ w) (Nat.le_refl _) _) (by simp) _
  have VI := fun W hW => implValueIn_any a n cap key ls W hW hs
  cases hc : (Ch.asked ls key != 0)
  · rw [Ch.bfOf_ok hc]
    cases hh : Ch.has ls key with
    | none =>
      rw [Ch.valR_none hc hh] at VI
      rw [Ch.bf_none]
      go_enter Try.func39, Try.ntmps39
      go_wp2_with fail
      refine (implKeys_any a n cap ls _ 1 1 [key] _ (h.below (b0 _)) hs one_key (by omega)).mono ?_
      rintro e w1 ⟨rfl, b1⟩
      obtain ⟨x0, x1, x2, f0, f1, f2⟩ := three_box (below_box b1)
      have hz := lt_of_cell x0
      have bE := (b0 _).trans (b1.mono (b0 _).size)
      rw [askedAll_one]
      generalize Ch.asked ls key = c at *
      clear b1
      go_wp2_with fail
      refine (VI _ (h.below bE)).mono ?_
      rintro e w2 ⟨rfl, b2⟩
      replace x0 := keep_cell b2 x0
      replace x1 := keep_cell b2 x1
      replace x2 := keep_cell b2 x2
      replace f0 := ((bcell b2).2 w.heap.size 0 hz).trans f0
      replace f1 := ((bcell b2).2 w.heap.size 1 hz).trans f1
      replace f2 := ((bcell b2).2 w.heap.size 2 hz).trans f2
      have hz2 := lt_of_cell x0
      have bE2 := bE.trans (b2.mono bE.size)
      clear b2 VI hc hz bE
      go_wp2
      exact bodyPost_ret (v := .agg #[.int .i64 key, .bool false, .int .i64 0]) (by simp [results, Try.results39, go_sem, x0, x1, x2, hz2]) rfl ⟨rfl, Below.alloc (((bE2.setCell (p := ⟨w.heap.size, 0, none⟩) (Nat.le_refl _) _).setCell (p := ⟨w.heap.size, 1, none⟩) (Nat.le_refl _) _).setCell (p := ⟨w.heap.size, 2, none⟩) (Nat.le_refl _) _) (by simp; omega) _⟩
    | some v =>
      rw [Ch.valR_some hc hh] at VI
      rw [Ch.bf_some]
      go_enter Try.func39, Try.ntmps39
      go_wp2_with fail
      refine (implKeys_any a n cap ls _ 1 1 [key] _ (h.below (b0 _)) hs one_key (by omega)).mono ?_
      rintro e w1 ⟨rfl, b1⟩
      obtain ⟨x0, x1, x2, f0, f1, f2⟩ := three_box (below_box b1)
      have hz := lt_of_cell x0
      have bE := (b0 _).trans (b1.mono (b0 _).size)
      rw [askedAll_one]
      generalize Ch.asked ls key = c at *
      clear b1
      go_wp2_with fail
      refine (VI _ (h.below bE)).mono ?_
      rintro e w2 ⟨rfl, b2⟩
      replace x0 := keep_cell b2 x0
      replace x1 := keep_cell b2 x1
      replace x2 := keep_cell b2 x2
      replace f0 := ((bcell b2).2 w.heap.size 0 hz).trans f0
      replace f1 := ((bcell b2).2 w.heap.size 1 hz).trans f1
      replace f2 := ((bcell b2).2 w.heap.size 2 hz).trans f2
      have hz2 := lt_of_cell x0
      have bE2 := bE.trans (b2.mono bE.size)
      clear b2 VI hc hz bE
      go_wp2
      exact bodyPost_ret (v := .agg #[.int .i64 key, .bool true, .int .i64 v]) (by simp [results, Try.results39, go_sem, x0, x1, x2, hz2]) rfl ⟨rfl, Below.alloc (((bE2.setCell (p := ⟨w.heap.size, 0, none⟩) (Nat.le_refl _) _).setCell (p := ⟨w.heap.size, 1, none⟩) (Nat.le_refl _) _).setCell (p := ⟨w.heap.size, 2, none⟩) (Nat.le_refl _) _) (by simp; omega) _⟩
  · rw [Ch.bfOf_code hc]
    go_enter Try.func39, Try.ntmps39
    go_wp2_with fail
    refine (implKeys_any a n cap ls _ 1 1 [key] _ (h.below (b0 _)) hs one_key (by omega)).mono ?_
    rintro e w1 ⟨rfl, b1⟩
    obtain ⟨x0, x1, x2, f0, f1, f2⟩ := three_box (below_box b1)
    have hz := lt_of_cell x0
    have bE := (b0 _).trans (b1.mono (b0 _).size)
    rw [askedAll_one]
    generalize Ch.asked ls key = c at *
    clear b1
    go_wp2
    exact bodyPost_ret (v := .agg #[.int .i64 0, .bool false, .int .i64 0]) (by simp [results, Try.results39, go_sem, x0, x1, x2, hz]) rfl ⟨rfl, ((bE.setCell (p := ⟨w.heap.size, 0, none⟩) (Nat.le_refl _) _).setCell (p := ⟨w.heap.size, 1, none⟩) (Nat.le_refl _) _).setCell (p := ⟨w.heap.size, 2, none⟩) (Nat.le_refl _) _⟩

set_option linter.unusedSimpArgs false in
set_option maxHeartbeats 2000000 in
theorem l8Before_any (a : Option Addr) (n cap : Nat) (key : Int) (ls : List (List Ch.Row)) (w : World) (h : LvAt w a n ls) (hs : Ch.lvSize ls ≤ 1048576) (hg : ∀ k, k < n → (ls.getD k []).length ≠ 0) :
    Calls Try.prog 130 #[.slice a n cap, .int .i64 key] w fun e w' => e = .returned (.agg #[.int .i64 (Ch.bf key (Ch.has ls key)).k, .bool (Ch.bf key (Ch.has ls key)).h, .int .i64 (Ch.bf key (Ch.has ls key)).v]) ∧ Below w.heap.size w w' := by
  have b0 : Below w.heap.size w (w.alloc (.cells #[.int .i64 0, .bool false, .int .i64 0] 64)) := (Below.refl _ _).alloc (Nat.le_refl _) _
  have FI := fun W hW => specFind_any a n cap key ls W hW hs hg
  have HR := hid (fun rk rv hf => congrArg (Ch.bf key) (Ch.has_row (ls := ls) (key := key) (rk := rk) (rv := rv) hf))
  have HG := hid (fun rk rv hf => congrArg (Ch.bf key) (Ch.has_ghost (ls := ls) (key := key) (rk := rk) (rv := rv) hf))
  have HN := hid (fun hf => congrArg (Ch.bf key) (Ch.has_none (ls := ls) (key := key) hf))
  generalize Ch.bf key (Ch.has ls key) = X at *
  go_enter Try.func130, Try.ntmps130
  go_wp2_with fail
  refine (FI _ (h.below b0)).mono ?_
  rintro e w1 ⟨⟨rk, rv, rg⟩, ok, rfl, his, b1⟩
  obtain ⟨x0, x1, x2, f0, f1, f2⟩ := three_box b1
  have hz := lt_of_cell x0
  have bE := b0.trans (b1.mono b0.size)
  clear b1 FI
  rcases his with ⟨rfl, hf⟩ | ⟨rfl, hf⟩
  · cases rg
    · have HX := hid (HR.out _ _ hf)
      clear hf HR HG HN
      go_wp2
      exact bodyPost_ret (v := .agg #[.int .i64 key, .bool true, .int .i64 rv]) (by simp [results, Try.results130, go_sem, x0, x1, x2, hz]) rfl ⟨by rw [HX.out]; rfl, Below.alloc (((bE.setCell (p := ⟨w.heap.size, 0, none⟩) (Nat.le_refl _) _).setCell (p := ⟨w.heap.size, 1, none⟩) (Nat.le_refl _) _).setCell (p := ⟨w.heap.size, 2, none⟩) (Nat.le_refl _) _) (by simp; omega) _⟩
    · have HX := hid (HG.out _ _ hf)
      clear hf HR HG HN
      go_wp2
      exact bodyPost_ret (v := .agg #[.int .i64 key, .bool false, .int .i64 0]) (by simp [results, Try.results130, go_sem, x0, x1, x2, hz]) rfl ⟨by rw [HX.out]; rfl, Below.alloc (((bE.setCell (p := ⟨w.heap.size, 0, none⟩) (Nat.le_refl _) _).setCell (p := ⟨w.heap.size, 1, none⟩) (Nat.le_refl _) _).setCell (p := ⟨w.heap.size, 2, none⟩) (Nat.le_refl _) _) (by simp; omega) _⟩
  · have HX := hid (HN.out hf)
    clear hf HR HG HN
    go_wp2
    exact bodyPost_ret (v := .agg #[.int .i64 key, .bool false, .int .i64 0]) (by simp [results, Try.results130, go_sem, x0, x1, x2, hz]) rfl ⟨by rw [HX.out]; rfl, Below.alloc (((bE.setCell (p := ⟨w.heap.size, 0, none⟩) (Nat.le_refl _) _).setCell (p := ⟨w.heap.size, 1, none⟩) (Nat.le_refl _) _).setCell (p := ⟨w.heap.size, 2, none⟩) (Nat.le_refl _) _) (by simp; omega) _⟩

theorem good_leaves {ls : List (List Ch.Row)} {n : Nat} {key : Int} (hl : n = ls.length) (hc : (Ch.asked ls key != 0) = false) : ∀ k, k < n → (ls.getD k []).length ≠ 0 := by
  intro k hk
  exact (Ch.good_leaf (Ch.asked_good (ls := ls) (key := key) (by simpa using hc)).1 k (by omega)).1

set_option linter.unusedSimpArgs false in
set_option maxHeartbeats 2000000 in
theorem specBeforeOf_any (a : Option Addr) (n cap : Nat) (key : Int) (ls : List (List Ch.Row)) (w : World) (h : LvAt w a n ls) (hs : Ch.lvSize ls ≤ 1048576) :
    Calls Try.prog 76 #[.slice a n cap, .int .i64 key] w fun e w' => e = .returned (.agg #[.int .i64 (Ch.bfOf ls key).k, .bool (Ch.bfOf ls key).h, .int .i64 (Ch.bfOf ls key).v]) ∧ Below w.heap.size w w' := by
  have b0 : Below w.heap.size w (w.alloc (.cells #[.int .i64 0, .bool false, .int .i64 0] 64)) := (Below.refl _ _).alloc (Nat.le_refl _) _
  have AI := fun W hW => specAsked_any a n cap key ls W hW hs
  cases hc : (Ch.asked ls key != 0)
  · rw [Ch.bfOf_ok hc]
    have LI := fun W hW => l8Before_any a n cap key ls W hW hs (good_leaves h.len.out hc)
    generalize Ch.bf key (Ch.has ls key) = r at *
    generalize Ch.asked ls key = c at *
    obtain ⟨rk, rh, rv⟩ := r
    go_enter Try.func76, Try.ntmps76
    go_wp2_with fail
    refine (AI _ (h.below b0)).mono ?_
    rintro e w1 ⟨rfl, b1⟩
    obtain ⟨x0, x1, x2, f0, f1, f2⟩ := three_box b1
    have hz := lt_of_cell x0
    have bE := b0.trans (b1.mono b0.size)
    clear b1 AI
    go_wp2_with fail
    refine (LI _ (h.below bE)).mono ?_
    rintro e w2 ⟨rfl, b2⟩
    replace x0 := keep_cell b2 x0
    replace x1 := keep_cell b2 x1
    replace x2 := keep_cell b2 x2
    replace f0 := ((bcell b2).2 w.heap.size 0 hz).trans f0
    replace f1 := ((bcell b2).2 w.heap.size 1 hz).trans f1
    replace f2 := ((bcell b2).2 w.heap.size 2 hz).trans f2
    have hz2 := lt_of_cell x0
    have bE2 := bE.trans (b2.mono bE.size)
    clear b2 LI hc hz bE
    go_wp2
    exact bodyPost_ret (v := .agg #[.int .i64 rk, .bool rh, .int .i64 rv]) (by simp [results, Try.results76, go_sem, x0, x1, x2, hz2]) rfl ⟨rfl, ((bE2.setCell (p := ⟨w.heap.size, 0, none⟩) (Nat.le_refl _) _).setCell (p := ⟨w.heap.size, 1, none⟩) (Nat.le_refl _) _).setCell (p := ⟨w.heap.size, 2, none⟩) (Nat.le_refl _) _⟩
  · rw [Ch.bfOf_code hc]
    generalize Ch.asked ls key = c at *
    go_enter Try.func76, Try.ntmps76
    go_wp2_with fail
    refine (AI _ (h.below b0)).mono ?_
    rintro e w1 ⟨rfl, b1⟩
    obtain ⟨x0, x1, x2, f0, f1, f2⟩ := three_box b1
    have hz := lt_of_cell x0
    have bE := b0.trans (b1.mono b0.size)
    clear b1 AI
    go_wp2
    exact bodyPost_ret (v := .agg #[.int .i64 0, .bool false, .int .i64 0]) (by simp [results, Try.results76, go_sem, x0, x1, x2, hz]) rfl ⟨rfl, ((bE.setCell (p := ⟨w.heap.size, 0, none⟩) (Nat.le_refl _) _).setCell (p := ⟨w.heap.size, 1, none⟩) (Nat.le_refl _) _).setCell (p := ⟨w.heap.size, 2, none⟩) (Nat.le_refl _) _⟩

set_option linter.unusedSimpArgs false in
set_option maxHeartbeats 2000000 in
theorem specValueIn_any (a : Option Addr) (n cap : Nat) (key : Int) (ls : List (List Ch.Row)) (w : World) (h : LvAt w a n ls) (hs : Ch.lvSize ls ≤ 1048576) :
    Calls Try.prog 59 #[.slice a n cap, .int .i64 key] w fun e w' => e = .returned (.agg #[.int .i64 (Ch.valR ls key).1, .int .i64 (Ch.valR ls key).2]) ∧ Below w.heap.size w w' := by
  have b0 : Below w.heap.size w (w.alloc (.cells #[.int .i64 0, .int .i64 0] 43)) := (Below.refl _ _).alloc (Nat.le_refl _) _
  have AI := fun W hW => specAsked_any a n cap key ls W hW hs
  cases hc : (Ch.asked ls key != 0)
  · have LI := fun W hW => l8Before_any a n cap key ls W hW hs (good_leaves h.len.out hc)
    cases hh : Ch.has ls key with
    | none =>
      rw [Ch.valR_none hc hh]
      rw [hh, Ch.bf_none] at LI
      generalize Ch.asked ls key = c at *
      go_enter Try.func59, Try.ntmps59
      go_wp2_with fail
      refine (AI _ (h.below b0)).mono ?_
      rintro e w1 ⟨rfl, b1⟩
      obtain ⟨x0, x1, f0, f1⟩ := two_box b1
      have hz := lt_of_cell x0
      have bE := b0.trans (b1.mono b0.size)
      clear b1 AI
      go_wp2_with fail
      refine (LI _ (h.below bE)).mono ?_
      rintro e w2 ⟨rfl, b2⟩
      replace x0 := keep_cell b2 x0
      replace x1 := keep_cell b2 x1
      replace f0 := ((bcell b2).2 w.heap.size 0 hz).trans f0
      replace f1 := ((bcell b2).2 w.heap.size 1 hz).trans f1
      have hz2 := lt_of_cell x0
      have bE2 := bE.trans (b2.mono bE.size)
      clear b2 LI hc hz bE
      go_wp2
      exact bodyPost_ret (v := .agg #[.int .i64 4, .int .i64 0]) (by simp [results, Try.results59, go_sem, x0, x1, hz2]) rfl ⟨rfl, Below.alloc ((bE2.setCell (p := ⟨w.heap.size, 0, none⟩) (Nat.le_refl _) _).setCell (p := ⟨w.heap.size, 1, none⟩) (Nat.le_refl _) _) (by simp; omega) _⟩
    | some v =>
      rw [Ch.valR_some hc hh]
      rw [hh, Ch.bf_some] at LI
      generalize Ch.asked ls key = c at *
      go_enter Try.func59, Try.ntmps59
      go_wp2_with fail
      refine (AI _ (h.below b0)).mono ?_
      rintro e w1 ⟨rfl, b1⟩
      obtain ⟨x0, x1, f0, f1⟩ := two_box b1
      have hz := lt_of_cell x0
      have bE := b0.trans (b1.mono b0.size)
      clear b1 AI
      go_wp2_with fail
      refine (LI _ (h.below bE)).mono ?_
      rintro e w2 ⟨rfl, b2⟩
      replace x0 := keep_cell b2 x0
      replace x1 := keep_cell b2 x1
      replace f0 := ((bcell b2).2 w.heap.size 0 hz).trans f0
      replace f1 := ((bcell b2).2 w.heap.size 1 hz).trans f1
      have hz2 := lt_of_cell x0
      have bE2 := bE.trans (b2.mono bE.size)
      clear b2 LI hc hz bE
      go_wp2
      exact bodyPost_ret (v := .agg #[.int .i64 0, .int .i64 v]) (by simp [results, Try.results59, go_sem, x0, x1, hz2]) rfl ⟨rfl, Below.alloc ((bE2.setCell (p := ⟨w.heap.size, 0, none⟩) (Nat.le_refl _) _).setCell (p := ⟨w.heap.size, 1, none⟩) (Nat.le_refl _) _) (by simp; omega) _⟩
  · rw [Ch.valR_code hc]
    generalize Ch.asked ls key = c at *
    go_enter Try.func59, Try.ntmps59
    go_wp2_with fail
    refine (AI _ (h.below b0)).mono ?_
    rintro e w1 ⟨rfl, b1⟩
    obtain ⟨x0, x1, f0, f1⟩ := two_box b1
    have hz := lt_of_cell x0
    have bE := b0.trans (b1.mono b0.size)
    clear b1 AI
    go_wp2
    exact bodyPost_ret (v := .agg #[.int .i64 c, .int .i64 0]) (by simp [results, Try.results59, go_sem, x0, x1, hz]) rfl ⟨rfl, (bE.setCell (p := ⟨w.heap.size, 0, none⟩) (Nat.le_refl _) _).setCell (p := ⟨w.heap.size, 1, none⟩) (Nat.le_refl _) _⟩
end Go.Proofs.Ytjagobcogkdfhaa

