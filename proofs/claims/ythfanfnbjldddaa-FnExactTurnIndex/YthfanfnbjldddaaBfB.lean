
/- BeforesFault of the program and of the model. -/
import Derived.Test.YthfanfnbjldddaaUnM
namespace Go.Proofs.Ythfanfnbjldddaa
open Go.RowKit

theorem Ch.bf_range {k v : Int} {h : Bool} (hr : (!Ch.inB k 0 99 || !Ch.inB v 0 9999) = true) : (⟨k, h, v⟩ : Ch.Bf).fault = 3 := by
  unfold Ch.Bf.fault; rw [if_pos hr]
theorem Ch.bf_form {k v : Int} {h : Bool} (hr : (!Ch.inB k 0 99 || !Ch.inB v 0 9999) = false) (hf : (!h && v != 0) = true) : (⟨k, h, v⟩ : Ch.Bf).fault = 1 := by
  unfold Ch.Bf.fault; rw [if_neg (by rw [hr]; exact Bool.false_ne_true), if_pos hf]
theorem Ch.bf_fine {k v : Int} {h : Bool} (hr : (!Ch.inB k 0 99 || !Ch.inB v 0 9999) = false) (hf : (!h && v != 0) = false) : (⟨k, h, v⟩ : Ch.Bf).fault = 0 := by
  unfold Ch.Bf.fault; rw [if_neg (by rw [hr]; exact Bool.false_ne_true), if_neg (by rw [hf]; exact Bool.false_ne_true)]

set_option maxHeartbeats 2000000 in
theorem implBefores_any (a : Option Addr) (n cap : Nat) (bs : List Ch.Bf) (w : World) (h : CellsAt w a (n * 3) (bfcells bs)) (hn : n ≤ 1048576) :
    Calls Try.prog 24 #[.slice a n cap] w fun e w' => e = .returned (.int .i64 (Ch.befFault bs)) ∧ Below w.heap.size w w' := by
  have HL := h.bflen
  by_cases hbig : 40 < n
  · have HF : Hid (Ch.befFault bs = 2) := Ch.bef_big (by have := HL.out; omega)
    go_enter Try.func24, Try.ntmps24
    go_wp2
    go_ret
    exact ⟨ret_int HF.out.symm, Below.refl _ _⟩
  have hn4 : n ≤ 40 := by omega
  clear hbig
  have HF := hid (Ch.bef_few (bs := bs) (by have := HL.out; omega))
  go_enter Try.func24, Try.ntmps24
  go_wp2
  go_loopw [10] (fun i wr => ∃ k : Nat, k ≤ n ∧ i = .int .i64 k ∧ Hid (Ch.befFault bs = Ch.befOne (bs.drop k)) ∧ Below w.heap.size w wr) (fun i _ => n - (intOf i).toNat)
  case atStart => exact ⟨0, Nat.zero_le _, rfl, HF.out, Below.refl _ _⟩
  case round =>
    clear HF
    obtain ⟨k, hk, rfl, HH, hB⟩ := hrel
    by_cases hlt : k < n
    · have hkl : k < bs.length := by have := HL.out; omega
      have HS := hid (fun he => HH.out.trans (Ch.bef_at hkl he))
      have HN := hid (fun he => HH.out.trans (Ch.bef_on hkl he))
      obtain ⟨b, off, rfl, q0, q1, q2⟩ := (h.below hB).bef hlt
      have hbl := lt_of_cell q0
      generalize bs.getD k Ch.Bf.zero = r at *
      obtain ⟨rk, rh, rv⟩ := r
      simp only at q0 q1 q2
      have IT := fun W => isKey_any rk W
      have IM := fun W => isValue_any rv W
      cases ht : Ch.inB rk 0 99
      · rw [ht] at IT
        have HX := hid (Ch.bf_range (k := rk) (v := rv) (h := rh) (by rw [ht]; rfl))
        replace HS := hid (HS.out (by rw [HX.out]; rfl))
        clear HN IM
        go_wp2_with fail
        refine (IT _).mono ?_
        rintro e w' ⟨rfl, rfl⟩
        go_wp2
        go_ret
        exact ⟨ret_int (HS.out.trans HX.out).symm, hB.alloc hB.size _⟩
      rw [ht] at IT
      cases hm : Ch.inB rv 0 9999
      · rw [hm] at IM
        have HX := hid (Ch.bf_range (k := rk) (v := rv) (h := rh) (by rw [ht, hm]; rfl))
        replace HS := hid (HS.out (by rw [HX.out]; rfl))
        clear HN
        go_wp2_with fail
        refine (IT _).mono ?_
        rintro e w' ⟨rfl, rfl⟩
        go_wp2_with fail
        refine (IM _).mono ?_
        rintro e w' ⟨rfl, rfl⟩
        go_wp2
        go_ret
        exact ⟨ret_int (HS.out.trans HX.out).symm, hB.alloc hB.size _⟩
      rw [hm] at IM
      cases rh
      · cases hv : (rv != 0)
        · have HX := hid (Ch.bf_fine (k := rk) (v := rv) (h := false) (by rw [ht, hm]; rfl) (by rw [hv]; rfl))
          replace HN := hid (HN.out (by rw [HX.out]; rfl))
          clear HS
          go_wp2_with fail
          refine (IT _).mono ?_
          rintro e w' ⟨rfl, rfl⟩
          go_wp2_with fail
          refine (IM _).mono ?_
          rintro e w' ⟨rfl, rfl⟩
          go_wp2
          go_roundw
          case rel => exact ⟨k + 1, by omega, by go_num, HN.out, hB.alloc hB.size _⟩
          case measure => simp [intOf]; omega
        · have HX := hid (Ch.bf_form (k := rk) (v := rv) (h := false) (by rw [ht, hm]; rfl) (by rw [hv]; rfl))
          replace HS := hid (HS.out (by rw [HX.out]; rfl))
          clear HN
          go_wp2_with fail
          refine (IT _).mono ?_
          rintro e w' ⟨rfl, rfl⟩
          go_wp2_with fail
          refine (IM _).mono ?_
          rintro e w' ⟨rfl, rfl⟩
          go_wp2
          go_ret
          exact ⟨ret_int (HS.out.trans HX.out).symm, hB.alloc hB.size _⟩
      · have HX := hid (Ch.bf_fine (k := rk) (v := rv) (h := true) (by rw [ht, hm]; rfl) rfl)
        replace HN := hid (HN.out (by rw [HX.out]; rfl))
        clear HS
        go_wp2_with fail
        refine (IT _).mono ?_
        rintro e w' ⟨rfl, rfl⟩
        go_wp2_with fail
        refine (IM _).mono ?_
        rintro e w' ⟨rfl, rfl⟩
        go_wp2
        go_roundw
        case rel => exact ⟨k + 1, by omega, by go_num, HN.out, hB.alloc hB.size _⟩
        case measure => simp [intOf]; omega
    · obtain rfl : k = n := by omega
      have HZ := hid (HH.out.trans (Ch.bef_end (by have := HL.out; omega)))
      go_wp2
      go_ret
      exact ⟨ret_int HZ.out.symm, hB⟩

/-! The model -/

set_option maxHeartbeats 2000000 in
theorem specBefores_any (a : Option Addr) (n cap : Nat) (bs : List Ch.Bf) (w : World) (h : CellsAt w a (n * 3) (bfcells bs)) (hn : n ≤ 1048576) :
    Calls Try.prog 73 #[.slice a n cap] w fun e w' => e = .returned (.int .i64 (Ch.befFault bs)) ∧ Below w.heap.size w w' := by
  have HL := h.bflen
  by_cases hbig : 40 < n
  · have HF : Hid (Ch.befFault bs = 2) := Ch.bef_big (by have := HL.out; omega)
    go_enter Try.func73, Try.ntmps73
    go_wp2
    go_ret
    exact ⟨ret_int HF.out.symm, Below.refl _ _⟩
  have hn4 : n ≤ 40 := by omega
  clear hbig
  have HF := hid (Ch.bef_few (bs := bs) (by have := HL.out; omega))
  go_enter Try.func73, Try.ntmps73
  go_wp2
  go_loopw [3] (fun i wr => ∃ k : Nat, k ≤ n ∧ i = .int .i64 k ∧ Hid (Ch.befFault bs = Ch.befOne (bs.drop k)) ∧ Below w.heap.size w wr) (fun i _ => n - (intOf i).toNat)
  case atStart => exact ⟨0, Nat.zero_le _, rfl, HF.out, Below.refl _ _⟩
  case round =>
    clear HF
    obtain ⟨k, hk, rfl, HH, hB⟩ := hrel
    by_cases hlt : k < n
    · have hkl : k < bs.length := by have := HL.out; omega
      have HS := hid (fun he => HH.out.trans (Ch.bef_at hkl he))
      have HN := hid (fun he => HH.out.trans (Ch.bef_on hkl he))
      obtain ⟨b, off, rfl, q0, q1, q2⟩ := (h.below hB).bef hlt
      have hbl := lt_of_cell q0
      generalize bs.getD k Ch.Bf.zero = r at *
      obtain ⟨rk, rh, rv⟩ := r
      simp only at q0 q1 q2
      have IT := fun W => key_any rk W
      have IM := fun W => value_any rv W
      cases ht : Ch.inB rk 0 99
      · rw [ht] at IT
        have HX := hid (Ch.bf_range (k := rk) (v := rv) (h := rh) (by rw [ht]; rfl))
        replace HS := hid (HS.out (by rw [HX.out]; rfl))
        clear HN IM
        go_wp2_with fail
        refine (IT _).mono ?_
        rintro e w' ⟨rfl, rfl⟩
        go_wp2
        go_ret
        exact ⟨ret_int (HS.out.trans HX.out).symm, hB⟩
      rw [ht] at IT
      cases hm : Ch.inB rv 0 9999
      · rw [hm] at IM
        have HX := hid (Ch.bf_range (k := rk) (v := rv) (h := rh) (by rw [ht, hm]; rfl))
        replace HS := hid (HS.out (by rw [HX.out]; rfl))
        clear HN
        go_wp2_with fail
        refine (IT _).mono ?_
        rintro e w' ⟨rfl, rfl⟩
        go_wp2_with fail
        refine (IM _).mono ?_
        rintro e w' ⟨rfl, rfl⟩
        go_wp2
        go_ret
        exact ⟨ret_int (HS.out.trans HX.out).symm, hB⟩
      rw [hm] at IM
      cases rh
      · cases hv : (rv != 0)
        · have HX := hid (Ch.bf_fine (k := rk) (v := rv) (h := false) (by rw [ht, hm]; rfl) (by rw [hv]; rfl))
          replace HN := hid (HN.out (by rw [HX.out]; rfl))
          clear HS
          go_wp2_with fail
          refine (IT _).mono ?_
          rintro e w' ⟨rfl, rfl⟩
          go_wp2_with fail
          refine (IM _).mono ?_
          rintro e w' ⟨rfl, rfl⟩
          go_wp2
          go_roundw
          case rel => exact ⟨k + 1, by omega, by go_num, HN.out, hB⟩
          case measure => simp [intOf]; omega
        · have HX := hid (Ch.bf_form (k := rk) (v := rv) (h := false) (by rw [ht, hm]; rfl) (by rw [hv]; rfl))
          replace HS := hid (HS.out (by rw [HX.out]; rfl))
          clear HN
          go_wp2_with fail
          refine (IT _).mono ?_
          rintro e w' ⟨rfl, rfl⟩
          go_wp2_with fail
          refine (IM _).mono ?_
          rintro e w' ⟨rfl, rfl⟩
          go_wp2
          go_ret
          exact ⟨ret_int (HS.out.trans HX.out).symm, hB⟩
      · have HX := hid (Ch.bf_fine (k := rk) (v := rv) (h := true) (by rw [ht, hm]; rfl) rfl)
        replace HN := hid (HN.out (by rw [HX.out]; rfl))
        clear HS
        go_wp2_with fail
        refine (IT _).mono ?_
        rintro e w' ⟨rfl, rfl⟩
        go_wp2_with fail
        refine (IM _).mono ?_
        rintro e w' ⟨rfl, rfl⟩
        go_wp2
        go_roundw
        case rel => exact ⟨k + 1, by omega, by go_num, HN.out, hB⟩
        case measure => simp [intOf]; omega
    · obtain rfl : k = n := by omega
      have HZ := hid (HH.out.trans (Ch.bef_end (by have := HL.out; omega)))
      go_wp2
      go_ret
      exact ⟨ret_int HZ.out.symm, hB⟩
end Go.Proofs.Ythfanfnbjldddaa
