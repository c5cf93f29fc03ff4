/- Several texts in one: SamP, BfB. -/
import Derived.Test.YthfanfnbjldddaaPrA
import Derived.Test.YthfanfnbjldddaaEdK
import Derived.Laws.StructEq
import Derived.Test.YthfanfnbjldddaaUnM


/- SameIndex of the program and of the model; the law FnExactSameIndex. -/
namespace Go.Proofs.Ythfanfnbjldddaa
open Go.RowKit

def Ch.sameP : List Ch.Hold → List Ch.Hold → Bool
  | [], [] => true
  | x :: a, y :: b => Ch.sameE x y && Ch.sameP a b
  | _, _ => false
theorem Ch.sameP_at (a b : List Ch.Hold) (k : Nat) (h : k < a.length) (h' : k < b.length) : Ch.sameP (a.drop k) (b.drop k) = (Ch.sameE (a.getD k Ch.Hold.zero) (b.getD k Ch.Hold.zero) && Ch.sameP (a.drop (k + 1)) (b.drop (k + 1))) := by
  rw [List.drop_eq_getElem_cons h, List.drop_eq_getElem_cons h', Ch.sameP]
  simp [List.getD, h, h']
theorem Ch.sameP_len : ∀ (a b : List Ch.Hold), a.length ≠ b.length → Ch.sameP a b = false
  | [], [], h => absurd rfl h
  | [], _ :: _, _ => rfl
  | _ :: _, [], _ => rfl
  | x :: a, y :: b, h => by rw [Ch.sameP, Ch.sameP_len a b (by simpa using h)]; simp
theorem Ch.sameP_self (a : List Ch.Hold) : Ch.sameP a a = true := by
  induction a with
  | nil => rfl
  | cons x a ih => rw [Ch.sameP, ih, Ch.sameE_iff.2 rfl]; rfl
theorem bel_drewP {B : Nat} {w w' : World} (h : Below B w w') (q : Nat) : Below B w (w'.drewN q) := ⟨h.os, h.tape, h.output, h.size, h.block⟩
theorem equalPair (c j c' j' : Int) (w : World) : (Op.equalIn 10000 60 (.agg #[.int .i64 c, .int .i64 j]) (.agg #[.int .i64 c', .int .i64 j'])).run Try.prog w = .ok (Ch.sameE ⟨c, j⟩ ⟨c', j'⟩) w := by
  have hS : Try.prog.underlying 60 = some (.struct (Try.prog.fieldsOf 60)) := by kernel_rfl
  have hp : Try.prog.stoodInHeld 60 = false := by kernel_rfl
  have u2 := Try.underlying2
  have a2 := Try.isAgg2
  have z2 := Try.sizeOf2
  rw [show (10000 : Nat) = 9999 + 1 from rfl, run_equalIn_agg w 9999 60 _ _ hS hp]
  simp only [Program.fieldsOf, Try.underlying60]
  go_simp
  unfold Ch.sameE
  by_cases h1 : c = c' <;> by_cases h2 : j = j' <;> simp [h1, h2]
theorem neqPair (c j c' j' : Int) (w : World) : (binOp .neq 60 (.agg #[.int .i64 c, .int .i64 j]) (.agg #[.int .i64 c', .int .i64 j'])).run Try.prog w = .ok (.bool (!Ch.sameE ⟨c, j⟩ ⟨c', j'⟩)) w := by
  rw [run_neq_struct, equalPair]
  rfl

set_option maxHeartbeats 800000 in
theorem equalP_any (a a' : Option Addr) (n cap n' cap' : Nat) (rs qs : List Ch.Hold) (w : World) (h : CellsAt w a (n * 2) (hcells rs)) (h' : CellsAt w a' (n' * 2) (hcells qs)) (hn : n ≤ 1048576) (hn' : n' ≤ 1048576) :
    Calls Try.prog 103 #[.slice a n cap, .slice a' n' cap'] w fun e w' => e = .returned (.bool (Ch.sameP rs qs)) ∧ Below w.heap.size w w' := by
  have HL := h.hlen
  have HL' := h'.hlen
  by_cases hnn : n = n'
  · subst hnn
    have hne : ((n : Int) != n) = false := by simp
    go_enter Try.func103, Try.ntmps103
    go_wp2
    go_loopw [13] (fun i wr => ∃ k : Nat, k ≤ n ∧ i = .int .i64 k ∧ Hid (Ch.sameP rs qs = Ch.sameP (rs.drop k) (qs.drop k)) ∧ Below w.heap.size w wr) (fun i _ => n - (intOf i).toNat)
    case atStart => exact ⟨0, Nat.zero_le _, rfl, rfl, Below.refl _ _⟩
    case round =>
      obtain ⟨k, hk, rfl, HS, hB⟩ := hrel
      by_cases hlt : k < n
      · have HA := hid (Ch.sameP_at rs qs k (by have := HL.out; omega) (by have := HL'.out; omega))
        obtain ⟨b, off, rfl, hc0, hc1⟩ := (h.below hB).hold hlt
        obtain ⟨b', off', rfl, hd0, hd1⟩ := (h'.below hB).hold hlt
        generalize rs.getD k Ch.Hold.zero = r at *
        generalize qs.getD k Ch.Hold.zero = q at *
        obtain ⟨rt, rm⟩ := r
        obtain ⟨qt, qm⟩ := q
        simp only at hc0 hc1 hd0 hd1
        have hneq := fun W => neqPair rt rm qt qm W
        generalize Ch.sameE ⟨rt, rm⟩ ⟨qt, qm⟩ = same at *
        cases same
        · simp only [Bool.not_false] at hneq
          go_wp2
          go_quiet (fail)
          go_wp2
          go_ret
          exact ⟨by rw [HS.out, HA.out]; rfl, bel_drewP hB _⟩
        · simp only [Bool.not_true] at hneq
          go_wp2
          go_quiet (fail)
          go_wp2
          go_roundw
          case rel => exact ⟨k + 1, by omega, by go_num, (by show _ = _; rw [HS.out, HA.out]; rfl), bel_drewP hB _⟩
          case measure => simp [intOf]; omega
      · obtain rfl : k = n := by omega
        go_wp2
        go_ret
        refine ⟨?_, hB⟩
        rw [HS.out, List.drop_of_length_le (by have := HL.out; omega), List.drop_of_length_le (by have := HL'.out; omega)]
        rfl
  · have hne : ((n : Int) != (n' : Int)) = true := by simp; omega
    have hne2 : ¬ (n : Int) = (n' : Int) := by omega
    go_enter Try.func103, Try.ntmps103
    go_wp2
    go_ret
    exact ⟨by rw [Ch.sameP_len _ _ (by have := HL.out; have := HL'.out; omega)]; rfl, Below.refl _ _⟩

set_option maxHeartbeats 800000 in
theorem specSameIx_any (a a' : Option Addr) (n cap n' cap' : Nat) (rs qs : List Ch.Hold) (w : World) (h : CellsAt w a (n * 2) (hcells rs)) (h' : CellsAt w a' (n' * 2) (hcells qs)) (hn : n ≤ 1048576) (hn' : n' ≤ 1048576) :
    Calls Try.prog 52 #[.slice a n cap, .slice a' n' cap'] w fun e w' => e = .returned (.bool (Ch.sameP rs qs)) ∧ Below w.heap.size w w' := by
  have HL := h.hlen
  have HL' := h'.hlen
  by_cases hnn : n = n'
  · subst hnn
    have hne : ((n : Int) != n) = false := by simp
    go_enter Try.func52, Try.ntmps52
    go_wp2
    go_loopw [5] (fun i wr => ∃ k : Nat, k ≤ n ∧ i = .int .i64 k ∧ Hid (Ch.sameP rs qs = Ch.sameP (rs.drop k) (qs.drop k)) ∧ Below w.heap.size w wr) (fun i _ => n - (intOf i).toNat)
    case atStart => exact ⟨0, Nat.zero_le _, rfl, rfl, Below.refl _ _⟩
    case round =>
      obtain ⟨k, hk, rfl, HS, hB⟩ := hrel
      by_cases hlt : k < n
      · have HA := hid (Ch.sameP_at rs qs k (by have := HL.out; omega) (by have := HL'.out; omega))
        obtain ⟨b, off, rfl, hc0, hc1⟩ := (h.below hB).hold hlt
        obtain ⟨b', off', rfl, hd0, hd1⟩ := (h'.below hB).hold hlt
        generalize rs.getD k Ch.Hold.zero = r at *
        generalize qs.getD k Ch.Hold.zero = q at *
        obtain ⟨rt, rm⟩ := r
        obtain ⟨qt, qm⟩ := q
        simp only at hc0 hc1 hd0 hd1
        have hneq := fun W => neqPair rt rm qt qm W
        generalize Ch.sameE ⟨rt, rm⟩ ⟨qt, qm⟩ = same at *
        cases same
        · simp only [Bool.not_false] at hneq
          go_wp2
          go_quiet (fail)
          go_wp2
          go_ret
          exact ⟨by rw [HS.out, HA.out]; rfl, bel_drewP hB _⟩
        · simp only [Bool.not_true] at hneq
          go_wp2
          go_quiet (fail)
          go_wp2
          go_roundw
          case rel => exact ⟨k + 1, by omega, by go_num, (by show _ = _; rw [HS.out, HA.out]; rfl), bel_drewP hB _⟩
          case measure => simp [intOf]; omega
      · obtain rfl : k = n := by omega
        go_wp2
        go_ret
        refine ⟨?_, hB⟩
        rw [HS.out, List.drop_of_length_le (by have := HL.out; omega), List.drop_of_length_le (by have := HL'.out; omega)]
        rfl
  · have hne : ((n : Int) != (n' : Int)) = true := by simp; omega
    have hne2 : ¬ (n : Int) = (n' : Int) := by omega
    go_enter Try.func52, Try.ntmps52
    go_wp2
    go_ret
    exact ⟨by rw [Ch.sameP_len _ _ (by have := HL.out; have := HL'.out; omega)]; rfl, Below.refl _ _⟩

set_option maxHeartbeats 800000 in
theorem implSameIx_any (a a' : Option Addr) (n cap n' cap' : Nat) (rs qs : List Ch.Hold) (w : World) (h : CellsAt w a (n * 2) (hcells rs)) (h' : CellsAt w a' (n' * 2) (hcells qs)) (hn : n ≤ 1048576) (hn' : n' ≤ 1048576) :
    Calls Try.prog 53 #[.slice a n cap, .slice a' n' cap'] w fun e w' => e = .returned (.bool (Ch.sameP rs qs)) ∧ Below w.heap.size w w' := by
  go_enter Try.func53, Try.ntmps53
  go_wp2_with fail
  refine (equalP_any a a' n cap n' cap' rs qs _ h h' hn hn').mono ?_
  rintro e w1 ⟨rfl, b1⟩
  go_wp2
  go_ret
  exact ⟨rfl, b1⟩

set_option maxHeartbeats 2000000 in
theorem lawSameIx_any (a a' : Option Addr) (n cap n' cap' : Nat) (rs qs : List Ch.Hold) (w : World) (h : CellsAt w a (n * 2) (hcells rs)) (h' : CellsAt w a' (n' * 2) (hcells qs)) (hm : n ≤ 9223372036854775807) (hm' : n' ≤ 9223372036854775807) :
    Calls Try.prog 10 #[.slice a n cap, .slice a' n' cap'] w fun e w' => e = .returned (.bool true) ∧ Below w.heap.size w w' := by
  have Z0 := fun W => szPairs_any a n cap 1048576 W (Nat.le_refl _) hm
  by_cases hbig : n ≤ 1048576
  rotate_left
  · rw [if_neg hbig] at Z0
    go_enter Try.func10, Try.ntmps10
    go_wp2_with fail
    refine (Z0 _).mono ?_
    rintro e w1 ⟨rfl, rfl⟩
    go_wp2
    go_ret
    exact ⟨rfl, Below.refl _ _⟩
  rw [if_pos hbig] at Z0
  have Z1 := fun W => szPairs_any a' n' cap' (1048576 - n) W (by omega) hm'
  rw [show ((1048576 - n : Nat) : Int) = 1048576 - (n : Int) by omega] at Z1
  by_cases hbig' : n' ≤ 1048576 - n
  rotate_left
  · rw [if_neg hbig'] at Z1
    go_enter Try.func10, Try.ntmps10
    go_wp2_with fail
    refine (Z0 _).mono ?_
    rintro e w1 ⟨rfl, rfl⟩
    go_wp2_with fail
    refine (Z1 _).mono ?_
    rintro e w1 ⟨rfl, rfl⟩
    go_wp2
    go_ret
    exact ⟨rfl, Below.refl _ _⟩
  rw [if_pos hbig'] at Z1
  have hn' : n' ≤ 1048576 := by omega
  obtain ⟨b, HB⟩ : ∃ b, Hid (Ch.sameP rs qs = b) := ⟨_, rfl⟩
  have SI := fun W A B C D h1 h2 => specSameIx_any A B n C n' D rs qs W h1 h2 hbig hn'
  have II := fun W A B C D h1 h2 => implSameIx_any A B n C n' D rs qs W h1 h2 hbig hn'
  rw [HB.out] at SI II
  have hbb : (b != b) = false := by simp
  clear HB
  go_enter Try.func10, Try.ntmps10
  go_wp2_with fail
  refine (Z0 _).mono ?_
  rintro e w1 ⟨rfl, rfl⟩
  go_wp2_with fail
  refine (Z1 _).mono ?_
  rintro e w1 ⟨rfl, rfl⟩
  clear Z0 Z1
  go_wp2_with fail
  refine (toPairS_any a n cap rs _ h hbig).mono ?_
  rintro e w2 ⟨rfl, o2, b2⟩
  go_wp2_with fail
  refine (toPairS_any a' n' cap' qs _ (h'.below b2) hn').mono ?_
  rintro e w3 ⟨rfl, o3, b3⟩
  have bE := b2.trans (b3.mono b2.size)
  have o2 := owns_below o2 b3
  go_wp2_with fail
  refine (SI _ _ _ _ _ (owns_cells o2) (owns_cells o3)).mono ?_
  rintro e w4 ⟨rfl, b4⟩
  have bE := bE.trans (b4.mono bE.size)
  clear o2 o3 b2 b3 b4
  go_wp2_with fail
  refine (toPairS_any a n cap rs _ (h.below bE) hbig).mono ?_
  rintro e w5 ⟨rfl, o5, b5⟩
  have bE := bE.trans (b5.mono bE.size)
  go_wp2_with fail
  refine (toPairS_any a' n' cap' qs _ (h'.below bE) hn').mono ?_
  rintro e w6 ⟨rfl, o6, b6⟩
  have bE := bE.trans (b6.mono bE.size)
  have o5 := owns_below o5 b6
  go_wp2_with fail
  refine (II _ _ _ _ _ (owns_cells o5) (owns_cells o6)).mono ?_
  rintro e w7 ⟨rfl, b7⟩
  have bE := bE.trans (b7.mono bE.size)
  have o5 := owns_below o5 b7
  have o6 := owns_below o6 b7
  clear b5 b6 b7
  go_wp2_with fail
  refine (toPairS_any a n cap rs _ (h.below bE) hbig).mono ?_
  rintro e w8 ⟨rfl, o8, b8⟩
  have bE := bE.trans (b8.mono bE.size)
  have o5 := owns_below o5 b8
  have o6 := owns_below o6 b8
  go_wp2_with fail
  refine (eqPairS_same _ _ n _ _ rs _ (owns_cells o5) (owns_cells o8) hbig).mono ?_
  rintro e w9 ⟨rfl, b9⟩
  have bE := bE.trans (b9.mono bE.size)
  have o6 := owns_below o6 b9
  clear o8 o5 b8 b9
  go_wp2_with fail
  refine (toPairS_any a' n' cap' qs _ (h'.below bE) hn').mono ?_
  rintro e w10 ⟨rfl, o10, b10⟩
  have bE := bE.trans (b10.mono bE.size)
  have o6 := owns_below o6 b10
  go_wp2_with fail
  refine (eqPairS_same _ _ n' _ _ qs _ (owns_cells o6) (owns_cells o10) hn').mono ?_
  rintro e w11 ⟨rfl, b11⟩
  have bE := bE.trans (b11.mono bE.size)
  go_wp2
  go_ret
  exact ⟨rfl, bE⟩
end Go.Proofs.Ythfanfnbjldddaa


/- BeforesFault of the program and of the model. -/
namespace Go.Proofs.Ythfanfnbjldddaa
open Go.RowKit

theorem Ch.bf_range {k v : Int} {h : Bool} (hr : (!Ch.inB k 0 99 || !Ch.inB v 0 9999) = true) : (⟨k, h, v⟩ : Ch.Bf).fault = 3 := by
  unfold Ch.Bf.fault; rw [if_pos hr]
theorem Ch.bf_form {k v : Int} {h : Bool} (hr : (!Ch.inB k 0 99 || !Ch.inB v 0 9999) = false) (hf : (!h && v != 0) = true) : (⟨k, h, v⟩ : Ch.Bf).fault = 1 := by
  unfold Ch.Bf.fault; rw [if_neg (by rw [hr]; exact Bool.false_ne_true), if_pos hf]
theorem Ch.bf_fine {k v : Int} {h : Bool} (hr : (!Ch.inB k 0 99 || !Ch.inB v 0 9999) = false) (hf : (!h && v != 0) = false) : (⟨k, h, v⟩ : Ch.Bf).fault = 0 := by
  unfold Ch.Bf.fault; rw [if_neg (by rw [hr]; exact Bool.false_ne_true), if_neg (by rw [hf]; exact Bool.false_ne_true)]

set_option maxHeartbeats 2000000 in
theorem implBefores_any (a : Option Addr) (n cap : Nat) (bs : List Ch.Bf) (w : World) (h : CellsAt w a (n * 3) (bfcells bs)) (hn : n ≤ 1048576) :
    Calls Try.prog 24 #[.slice a n cap] w fun e w' => e = .returned (.int .i64 (Ch.befFault bs)) ∧ Below w.heap.size w w' := by
  have HL := h.bflen
  by_cases hbig : 40 < n
  · have HF : Hid (Ch.befFault bs = 2) := Ch.bef_big (by have := HL.out; omega)
    go_enter Try.func24, Try.ntmps24
    go_wp2
    go_ret
    exact ⟨ret_int HF.out.symm, Below.refl _ _⟩
  have hn4 : n ≤ 40 := by omega
  clear hbig
  have HF := hid (Ch.bef_few (bs := bs) (by have := HL.out; omega))
  go_enter Try.func24, Try.ntmps24
  go_wp2
  go_loopw [10] (fun i wr => ∃ k : Nat, k ≤ n ∧ i = .int .i64 k ∧ Hid (Ch.befFault bs = Ch.befOne (bs.drop k)) ∧ Below w.heap.size w wr) (fun i _ => n - (intOf i).toNat)
  case atStart => exact ⟨0, Nat.zero_le _, rfl, HF.out, Below.refl _ _⟩
  case round =>
    clear HF
    obtain ⟨k, hk, rfl, HH, hB⟩ := hrel
    by_cases hlt : k < n
    · have hkl : k < bs.length := by have := HL.out; omega
      have HS := hid (fun he => HH.out.trans (Ch.bef_at hkl he))
      have HN := hid (fun he => HH.out.trans (Ch.bef_on hkl he))
      obtain ⟨b, off, rfl, q0, q1, q2⟩ := (h.below hB).bef hlt
      have hbl := lt_of_cell q0
      generalize bs.getD k Ch.Bf.zero = r at *
      obtain ⟨rk, rh, rv⟩ := r
      simp only at q0 q1 q2
      have IT := fun W => isKey_any rk W
      have IM := fun W => isValue_any rv W
      cases ht : Ch.inB rk 0 99
      · rw [ht] at IT
        have HX := hid (Ch.bf_range (k := rk) (v := rv) (h := rh) (by rw [ht]; rfl))
        replace HS := hid (HS.out (by rw [HX.out]; rfl))
        clear HN IM
        go_wp2_with fail
        refine (IT _).mono ?_
        rintro e w' ⟨rfl, rfl⟩
        go_wp2
        go_ret
        exact ⟨ret_int (HS.out.trans HX.out).symm, hB.alloc hB.size _⟩
      rw [ht] at IT
      cases hm : Ch.inB rv 0 9999
      · rw [hm] at IM
        have HX := hid (Ch.bf_range (k := rk) (v := rv) (h := rh) (by rw [ht, hm]; rfl))
        replace HS := hid (HS.out (by rw [HX.out]; rfl))
        clear HN
        go_wp2_with fail
        refine (IT _).mono ?_
        rintro e w' ⟨rfl, rfl⟩
        go_wp2_with fail
        refine (IM _).mono ?_
        rintro e w' ⟨rfl, rfl⟩
        go_wp2
        go_ret
        exact ⟨ret_int (HS.out.trans HX.out).symm, hB.alloc hB.size _⟩
      rw [hm] at IM
      cases rh
      · cases hv : (rv != 0)
        · have HX := hid (Ch.bf_fine (k := rk) (v := rv) (h := false) (by rw [ht, hm]; rfl) (by rw [hv]; rfl))
          replace HN := hid (HN.out (by rw [HX.out]; rfl))
          clear HS
          go_wp2_with fail
          refine (IT _).mono ?_
          rintro e w' ⟨rfl, rfl⟩
          go_wp2_with fail
          refine (IM _).mono ?_
          rintro e w' ⟨rfl, rfl⟩
          go_wp2
          go_roundw
          case rel => exact ⟨k + 1, by omega, by go_num, HN.out, hB.alloc hB.size _⟩
          case measure => simp [intOf]; omega
        · have HX := hid (Ch.bf_form (k := rk) (v := rv) (h := false) (by rw [ht, hm]; rfl) (by rw [hv]; rfl))
          replace HS := hid (HS.out (by rw [HX.out]; rfl))
          clear HN
          go_wp2_with fail
          refine (IT _).mono ?_
          rintro e w' ⟨rfl, rfl⟩
          go_wp2_with fail
          refine (IM _).mono ?_
          rintro e w' ⟨rfl, rfl⟩
          go_wp2
          go_ret
          exact ⟨ret_int (HS.out.trans HX.out).symm, hB.alloc hB.size _⟩
      · have HX := hid (Ch.bf_fine (k := rk) (v := rv) (h := true) (by rw [ht, hm]; rfl) rfl)
        replace HN := hid (HN.out (by rw [HX.out]; rfl))
        clear HS
        go_wp2_with fail
        refine (IT _).mono ?_
        rintro e w' ⟨rfl, rfl⟩
        go_wp2_with fail
        refine (IM _).mono ?_
        rintro e w' ⟨rfl, rfl⟩
        go_wp2
        go_roundw
        case rel => exact ⟨k + 1, by omega, by go_num, HN.out, hB.alloc hB.size _⟩
        case measure => simp [intOf]; omega
    · obtain rfl : k = n := by omega
      have HZ := hid (HH.out.trans (Ch.bef_end (by have := HL.out; omega)))
      go_wp2
      go_ret
      exact ⟨ret_int HZ.out.symm, hB⟩

/-! The model -/

set_option maxHeartbeats 2000000 in
theorem specBefores_any (a : Option Addr) (n cap : Nat) (bs : List Ch.Bf) (w : World) (h : CellsAt w a (n * 3) (bfcells bs)) (hn : n ≤ 1048576) :
    Calls Try.prog 73 #[.slice a n cap] w fun e w' => e = .returned (.int .i64 (Ch.befFault bs)) ∧ Below w.heap.size w w' := by
  have HL := h.bflen
  by_cases hbig : 40 < n
  · have HF : Hid (Ch.befFault bs = 2) := Ch.bef_big (by have := HL.out; omega)
    go_enter Try.func73, Try.ntmps73
    go_wp2
    go_ret
    exact ⟨ret_int HF.out.symm, Below.refl _ _⟩
  have hn4 : n ≤ 40 := by omega
  clear hbig
  have HF := hid (Ch.bef_few (bs := bs) (by have := HL.out; omega))
  go_enter Try.func73, Try.ntmps73
  go_wp2
  go_loopw [3] (fun i wr => ∃ k : Nat, k ≤ n ∧ i = .int .i64 k ∧ Hid (Ch.befFault bs = Ch.befOne (bs.drop k)) ∧ Below w.heap.size w wr) (fun i _ => n - (intOf i).toNat)
  case atStart => exact ⟨0, Nat.zero_le _, rfl, HF.out, Below.refl _ _⟩
  case round =>
    clear HF
    obtain ⟨k, hk, rfl, HH, hB⟩ := hrel
    by_cases hlt : k < n
    · have hkl : k < bs.length := by have := HL.out; omega
      have HS := hid (fun he => HH.out.trans (Ch.bef_at hkl he))
      have HN := hid (fun he => HH.out.trans (Ch.bef_on hkl he))
      obtain ⟨b, off, rfl, q0, q1, q2⟩ := (h.below hB).bef hlt
      have hbl := lt_of_cell q0
      generalize bs.getD k Ch.Bf.zero = r at *
      obtain ⟨rk, rh, rv⟩ := r
      simp only at q0 q1 q2
      have IT := fun W => key_any rk W
      have IM := fun W => value_any rv W
      cases ht : Ch.inB rk 0 99
      · rw [ht] at IT
        have HX := hid (Ch.bf_range (k := rk) (v := rv) (h := rh) (by rw [ht]; rfl))
        replace HS := hid (HS.out (by rw [HX.out]; rfl))
        clear HN IM
        go_wp2_with fail
        refine (IT _).mono ?_
        rintro e w' ⟨rfl, rfl⟩
        go_wp2
        go_ret
        exact ⟨ret_int (HS.out.trans HX.out).symm, hB⟩
      rw [ht] at IT
      cases hm : Ch.inB rv 0 9999
      · rw [hm] at IM
        have HX := hid (Ch.bf_range (k := rk) (v := rv) (h := rh) (by rw [ht, hm]; rfl))
        replace HS := hid (HS.out (by rw [HX.out]; rfl))
        clear HN
        go_wp2_with fail
        refine (IT _).mono ?_
        rintro e w' ⟨rfl, rfl⟩
        go_wp2_with fail
        refine (IM _).mono ?_
        rintro e w' ⟨rfl, rfl⟩
        go_wp2
        go_ret
        exact ⟨ret_int (HS.out.trans HX.out).symm, hB⟩
      rw [hm] at IM
      cases rh
      · cases hv : (rv != 0)
        · have HX := hid (Ch.bf_fine (k := rk) (v := rv) (h := false) (by rw [ht, hm]; rfl) (by rw [hv]; rfl))
          replace HN := hid (HN.out (by rw [HX.out]; rfl))
          clear HS
          go_wp2_with fail
          refine (IT _).mono ?_
          rintro e w' ⟨rfl, rfl⟩
          go_wp2_with fail
          refine (IM _).mono ?_
          rintro e w' ⟨rfl, rfl⟩
          go_wp2
          go_roundw
          case rel => exact ⟨k + 1, by omega, by go_num, HN.out, hB⟩
          case measure => simp [intOf]; omega
        · have HX := hid (Ch.bf_form (k := rk) (v := rv) (h := false) (by rw [ht, hm]; rfl) (by rw [hv]; rfl))
          replace HS := hid (HS.out (by rw [HX.out]; rfl))
          clear HN
          go_wp2_with fail
          refine (IT _).mono ?_
          rintro e w' ⟨rfl, rfl⟩
          go_wp2_with fail
          refine (IM _).mono ?_
          rintro e w' ⟨rfl, rfl⟩
          go_wp2
          go_ret
          exact ⟨ret_int (HS.out.trans HX.out).symm, hB⟩
      · have HX := hid (Ch.bf_fine (k := rk) (v := rv) (h := true) (by rw [ht, hm]; rfl) rfl)
        replace HN := hid (HN.out (by rw [HX.out]; rfl))
        clear HS
        go_wp2_with fail
        refine (IT _).mono ?_
        rintro e w' ⟨rfl, rfl⟩
        go_wp2_with fail
        refine (IM _).mono ?_
        rintro e w' ⟨rfl, rfl⟩
        go_wp2
        go_roundw
        case rel => exact ⟨k + 1, by omega, by go_num, HN.out, hB⟩
        case measure => simp [intOf]; omega
    · obtain rfl : k = n := by omega
      have HZ := hid (HH.out.trans (Ch.bef_end (by have := HL.out; omega)))
      go_wp2
      go_ret
      exact ⟨ret_int HZ.out.symm, hB⟩
end Go.Proofs.Ythfanfnbjldddaa

