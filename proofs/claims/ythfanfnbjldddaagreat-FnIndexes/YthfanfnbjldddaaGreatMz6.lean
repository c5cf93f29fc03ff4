/- Several texts in one: SamP, BfB. -/
import Derived.Test.YthfanfnbjldddaaGreatMz3
import Derived.Test.YthfanfnbjldddaaGreatMz2
import Derived.Laws.StructEq


/- SameIndex of the program and of the model; the law FnExactSameIndex. -/
namespace Go.Proofs.YthfanfnbjldddaaGreat
open Go.RowKit

def Ch.sameP : List Ch.Hold → List Ch.Hold → Bool
  | [], [] => true
  | x :: a, y :: b => Ch.sameE x y && Ch.sameP a b
  | _, _ => false
theorem Ch.sameP_at (a b : List Ch.Hold) (k : Nat) (h : k < a.length) (h' : k < b.length) : Ch.sameP (a.drop k) (b.drop k) = (Ch.sameE (a.getD k Ch.Hold.zero) (b.getD k Ch.Hold.zero) && Ch.sameP (a.drop (k + 1)) (b.drop (k + 1))) := by
  rw [List.drop_eq_getElem_cons h, List.drop_eq_getElem_cons h', Ch.sameP]
  simp [List.getD, h, h']
theorem Ch.sameP_len : ∀ (a b : List Ch.Hold), a.length ≠ b.length → Ch.sameP a b = false
  | [], [], h => absurd rfl h
  | [], _ :: _, _ => rfl
  | _ :: _, [], _ => rfl
  | x :: a, y :: b, h => by rw [Ch.sameP, Ch.sameP_len a b (by simpa using h)]; simp
theorem Ch.sameP_self (a : List Ch.Hold) : Ch.sameP a a = true := by
  induction a with
  | nil => rfl
  | cons x a ih => rw [Ch.sameP, ih, Ch.sameE_iff.2 rfl]; rfl
theorem bel_drewP {B : Nat} {w w' : World} (h : Below B w w') (q : Nat) : Below B w (w'.drewN q) := ⟨h.os, h.tape, h.output, h.size, h.block⟩
theorem equalPair (c j c' j' : Int) (w : World) : (Op.equalIn 10000 55 (.agg #[.int .i64 c, .int .i64 j]) (.agg #[.int .i64 c', .int .i64 j'])).run Tryz.prog w = .ok (Ch.sameE ⟨c, j⟩ ⟨c', j'⟩) w := by
  have hS : Tryz.prog.underlying 55 = some (.struct (Tryz.prog.fieldsOf 55)) := by kernel_rfl
  have hp : Tryz.prog.stoodInHeld 55 = false := by kernel_rfl
  have u2 := Tryz.underlying2
  have a2 := Tryz.isAgg2
  have z2 := Tryz.sizeOf2
  rw [show (10000 : Nat) = 9999 + 1 from rfl, run_equalIn_agg w 9999 55 _ _ hS hp]
  simp only [Program.fieldsOf, Tryz.underlying55]
  go_simp
  unfold Ch.sameE
  by_cases h1 : c = c' <;> by_cases h2 : j = j' <;> simp [h1, h2]
theorem neqPair (c j c' j' : Int) (w : World) : (binOp .neq 55 (.agg #[.int .i64 c, .int .i64 j]) (.agg #[.int .i64 c', .int .i64 j'])).run Tryz.prog w = .ok (.bool (!Ch.sameE ⟨c, j⟩ ⟨c', j'⟩)) w := by
  rw [run_neq_struct, equalPair]
  rfl

set_option maxHeartbeats 800000 in
theorem equalP_any (a a' : Option Addr) (n cap n' cap' : Nat) (rs qs : List Ch.Hold) (w : World) (h : CellsAt w a (n * 2) (hcells rs)) (h' : CellsAt w a' (n' * 2) (hcells qs)) (hn : n ≤ 1048576) (hn' : n' ≤ 1048576) :
    Calls Tryz.prog 36 #[.slice a n cap, .slice a' n' cap'] w fun e w' => e = .returned (.bool (Ch.sameP rs qs)) ∧ Below w.heap.size w w' := by
  have HL := h.hlen
  have HL' := h'.hlen
  by_cases hnn : n = n'
  · subst hnn
    have hne : ((n : Int) != n) = false := by simp
    go_enter Tryz.func36, Tryz.ntmps36
    go_wp2
    go_loopw [13] (fun i wr => ∃ k : Nat, k ≤ n ∧ i = .int .i64 k ∧ Hid (Ch.sameP rs qs = Ch.sameP (rs.drop k) (qs.drop k)) ∧ Below w.heap.size w wr) (fun i _ => n - (intOf i).toNat)
    case atStart => exact ⟨0, Nat.zero_le _, rfl, rfl, Below.refl _ _⟩
    case round =>
      obtain ⟨k, hk, rfl, HS, hB⟩ := hrel
      by_cases hlt : k < n
      · have HA := hid (Ch.sameP_at rs qs k (by have := HL.out; omega) (by have := HL'.out; omega))
        obtain ⟨b, off, rfl, hc0, hc1⟩ := (h.below hB).hold hlt
        obtain ⟨b', off', rfl, hd0, hd1⟩ := (h'.below hB).hold hlt
        generalize rs.getD k Ch.Hold.zero = r at *
        generalize qs.getD k Ch.Hold.zero = q at *
        obtain ⟨rt, rm⟩ := r
        obtain ⟨qt, qm⟩ := q
        simp only at hc0 hc1 hd0 hd1
        have hneq := fun W => neqPair rt rm qt qm W
        generalize Ch.sameE ⟨rt, rm⟩ ⟨qt, qm⟩ = same at *
        cases same
        · simp only [Bool.not_false] at hneq
          go_wp2
          go_quiet (fail)
          go_wp2
          go_ret
          exact ⟨by rw [HS.out, HA.out]; rfl, bel_drewP hB _⟩
        · simp only [Bool.not_true] at hneq
          go_wp2
          go_quiet (fail)
          go_wp2
          go_roundw
          case rel => exact ⟨k + 1, by omega, by go_num, (by show _ = _; rw [HS.out, HA.out]; rfl), bel_drewP hB _⟩
          case measure => simp [intOf]; omega
      · obtain rfl : k = n := by omega
        go_wp2
        go_ret
        refine ⟨?_, hB⟩
        rw [HS.out, List.drop_of_length_le (by have := HL.out; omega), List.drop_of_length_le (by have := HL'.out; omega)]
        rfl
  · have hne : ((n : Int) != (n' : Int)) = true := by simp; omega
    have hne2 : ¬ (n : Int) = (n' : Int) := by omega
    go_enter Tryz.func36, Tryz.ntmps36
    go_wp2
    go_ret
    exact ⟨by rw [Ch.sameP_len _ _ (by have := HL.out; have := HL'.out; omega)]; rfl, Below.refl _ _⟩

set_option maxHeartbeats 800000 in
theorem implSameIx_any (a a' : Option Addr) (n cap n' cap' : Nat) (rs qs : List Ch.Hold) (w : World) (h : CellsAt w a (n * 2) (hcells rs)) (h' : CellsAt w a' (n' * 2) (hcells qs)) (hn : n ≤ 1048576) (hn' : n' ≤ 1048576) :
    Calls Tryz.prog 12 #[.slice a n cap, .slice a' n' cap'] w fun e w' => e = .returned (.bool (Ch.sameP rs qs)) ∧ Below w.heap.size w w' := by
  go_enter Tryz.func12, Tryz.ntmps12
  go_wp2_with fail
  refine (equalP_any a a' n cap n' cap' rs qs _ h h' hn hn').mono ?_
  rintro e w1 ⟨rfl, b1⟩
  go_wp2
  go_ret
  exact ⟨rfl, b1⟩

end Go.Proofs.YthfanfnbjldddaaGreat


/- BeforesFault of the program and of the model. -/
namespace Go.Proofs.YthfanfnbjldddaaGreat
open Go.RowKit

theorem Ch.bf_range {k v : Int} {h : Bool} (hr : (!Ch.inB k 0 99 || !Ch.inB v 0 9999) = true) : (⟨k, h, v⟩ : Ch.Bf).fault = 3 := by
  unfold Ch.Bf.fault; rw [if_pos hr]
theorem Ch.bf_form {k v : Int} {h : Bool} (hr : (!Ch.inB k 0 99 || !Ch.inB v 0 9999) = false) (hf : (!h && v != 0) = true) : (⟨k, h, v⟩ : Ch.Bf).fault = 1 := by
  unfold Ch.Bf.fault; rw [if_neg (by rw [hr]; exact Bool.false_ne_true), if_pos hf]
theorem Ch.bf_fine {k v : Int} {h : Bool} (hr : (!Ch.inB k 0 99 || !Ch.inB v 0 9999) = false) (hf : (!h && v != 0) = false) : (⟨k, h, v⟩ : Ch.Bf).fault = 0 := by
  unfold Ch.Bf.fault; rw [if_neg (by rw [hr]; exact Bool.false_ne_true), if_neg (by rw [hf]; exact Bool.false_ne_true)]

set_option maxHeartbeats 2000000 in
theorem implBefores_any (a : Option Addr) (n cap : Nat) (bs : List Ch.Bf) (w : World) (h : CellsAt w a (n * 3) (bfcells bs)) (hn : n ≤ 1048576) :
    Calls Tryz.prog 47 #[.slice a n cap] w fun e w' => e = .returned (.int .i64 (Ch.befFault bs)) ∧ Below w.heap.size w w' := by
  have HL := h.bflen
  by_cases hbig : 40 < n
  · have HF : Hid (Ch.befFault bs = 2) := Ch.bef_big (by have := HL.out; omega)
    go_enter Tryz.func47, Tryz.ntmps47
    go_wp2
    go_ret
    exact ⟨ret_int HF.out.symm, Below.refl _ _⟩
  have hn4 : n ≤ 40 := by omega
  clear hbig
  have HF := hid (Ch.bef_few (bs := bs) (by have := HL.out; omega))
  go_enter Tryz.func47, Tryz.ntmps47
  go_wp2
  go_loopw [10] (fun i wr => ∃ k : Nat, k ≤ n ∧ i = .int .i64 k ∧ Hid (Ch.befFault bs = Ch.befOne (bs.drop k)) ∧ Below w.heap.size w wr) (fun i _ => n - (intOf i).toNat)
  case atStart => exact ⟨0, Nat.zero_le _, rfl, HF.out, Below.refl _ _⟩
  case round =>
    clear HF
    obtain ⟨k, hk, rfl, HH, hB⟩ := hrel
    by_cases hlt : k < n
    · have hkl : k < bs.length := by have := HL.out; omega
      have HS := hid (fun he => HH.out.trans (Ch.bef_at hkl he))
      have HN := hid (fun he => HH.out.trans (Ch.bef_on hkl he))
      obtain ⟨b, off, rfl, q0, q1, q2⟩ := (h.below hB).bef hlt
      have hbl := lt_of_cell q0
      generalize bs.getD k Ch.Bf.zero = r at *
      obtain ⟨rk, rh, rv⟩ := r
      simp only at q0 q1 q2
      have IT := fun W => isKey_any rk W
      have IM := fun W => isValue_any rv W
      cases ht : Ch.inB rk 0 99
      · rw [ht] at IT
        have HX := hid (Ch.bf_range (k := rk) (v := rv) (h := rh) (by rw [ht]; rfl))
        replace HS := hid (HS.out (by rw [HX.out]; rfl))
        clear HN IM
        go_wp2_with fail
        refine (IT _).mono ?_
        rintro e w' ⟨rfl, rfl⟩
        go_wp2
        go_ret
        exact ⟨ret_int (HS.out.trans HX.out).symm, hB.alloc hB.size _⟩
      rw [ht] at IT
      cases hm : Ch.inB rv 0 9999
      · rw [hm] at IM
        have HX := hid (Ch.bf_range (k := rk) (v := rv) (h := rh) (by rw [ht, hm]; rfl))
        replace HS := hid (HS.out (by rw [HX.out]; rfl))
        clear HN
        go_wp2_with fail
        refine (IT _).mono ?_
        rintro e w' ⟨rfl, rfl⟩
        go_wp2_with fail
        refine (IM _).mono ?_
        rintro e w' ⟨rfl, rfl⟩
        go_wp2
        go_ret
        exact ⟨ret_int (HS.out.trans HX.out).symm, hB.alloc hB.size _⟩
      rw [hm] at IM
      cases rh
      · cases hv : (rv != 0)
        · have HX := hid (Ch.bf_fine (k := rk) (v := rv) (h := false) (by rw [ht, hm]; rfl) (by rw [hv]; rfl))
          replace HN := hid (HN.out (by rw [HX.out]; rfl))
          clear HS
          go_wp2_with fail
          refine (IT _).mono ?_
          rintro e w' ⟨rfl, rfl⟩
          go_wp2_with fail
          refine (IM _).mono ?_
          rintro e w' ⟨rfl, rfl⟩
          go_wp2
          go_roundw
          case rel => exact ⟨k + 1, by omega, by go_num, HN.out, hB.alloc hB.size _⟩
          case measure => simp [intOf]; omega
        · have HX := hid (Ch.bf_form (k := rk) (v := rv) (h := false) (by rw [ht, hm]; rfl) (by rw [hv]; rfl))
          replace HS := hid (HS.out (by rw [HX.out]; rfl))
          clear HN
          go_wp2_with fail
          refine (IT _).mono ?_
          rintro e w' ⟨rfl, rfl⟩
          go_wp2_with fail
          refine (IM _).mono ?_
          rintro e w' ⟨rfl, rfl⟩
          go_wp2
          go_ret
          exact ⟨ret_int (HS.out.trans HX.out).symm, hB.alloc hB.size _⟩
      · have HX := hid (Ch.bf_fine (k := rk) (v := rv) (h := true) (by rw [ht, hm]; rfl) rfl)
        replace HN := hid (HN.out (by rw [HX.out]; rfl))
        clear HS
        go_wp2_with fail
        refine (IT _).mono ?_
        rintro e w' ⟨rfl, rfl⟩
        go_wp2_with fail
        refine (IM _).mono ?_
        rintro e w' ⟨rfl, rfl⟩
        go_wp2
        go_roundw
        case rel => exact ⟨k + 1, by omega, by go_num, HN.out, hB.alloc hB.size _⟩
        case measure => simp [intOf]; omega
    · obtain rfl : k = n := by omega
      have HZ := hid (HH.out.trans (Ch.bef_end (by have := HL.out; omega)))
      go_wp2
      go_ret
      exact ⟨ret_int HZ.out.symm, hB⟩

/-! The model -/

end Go.Proofs.YthfanfnbjldddaaGreat

