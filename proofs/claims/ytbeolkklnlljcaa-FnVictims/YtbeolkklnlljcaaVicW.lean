/- Who gives way: the program's and the model's functions on two lists of numbers. -/
import Derived.Test.YtbeolkklnlljcaaEdM
import Derived.Test.YtbeolkklnlljcaaLkN
import Derived.Test.YtbeolkklnlljcaaLkV
import Derived.Test.YtbeolkklnlljcaaLkZ
namespace Go.Proofs.Ytbeolkklnlljcaa
open Go.RowKit Go.Maps

/-- Numbers that an int64 can be. -/
def IsW (zs : List Int) : Prop := ∀ z ∈ zs, -9223372036854775808 ≤ z ∧ z ≤ 9223372036854775807
theorem kk_keyW {key : Int} (h : -9223372036854775808 ≤ key ∧ key ≤ 9223372036854775807) : keyOf Try.prog 2 (.int .i64 key) = some (kk key) := keyOf_int_mk Try.underlying2 (WalkArith.wf_i64 h)
theorem IsW.at {zs : List Int} (h : IsW zs) {k : Nat} (hk : k < zs.length) : -9223372036854775808 ≤ zs.getD k 0 ∧ zs.getD k 0 ≤ 9223372036854775807 := h _ (by simp [List.getD, hk])
theorem Ch.has_snocI {zs : List Int} {v : Int} {k : Nat} (hk : k < zs.length) : (zs.take (k + 1)).contains v = ((zs.take k).contains v || (zs.getD k 0 == v)) := by
  rw [Ch.take_snoc zs 0 k hk, Bool.eq_iff_iff]
  simp only [List.contains_iff_mem, List.mem_append, List.mem_singleton, Bool.or_eq_true, beq_iff_eq]
  exact or_congr_right ⟨fun h => h.symm, fun h => h.symm⟩
theorem Ch.has_yes {zs : List Int} {v : Int} {k : Nat} (hk : k < zs.length) (h : zs.getD k 0 = v) : zs.contains v = true := by
  rw [List.contains_iff_mem, ← h]
  simp [List.getD, hk]

theorem among_any (f : Nat) (hf : f = 149 ∨ f = 34) (a : Option Addr) (n cap : Nat) (v : Int) (zs : List Int) (w : World) (h : CellsAt w a (n * 1) (icells zs)) (hn : n ≤ 4194304) :
    Calls Try.prog f #[.slice a n cap, .int .i64 v] w fun e w' => e = .returned (.bool (zs.contains v)) ∧ w' = w := by
  have HL := h.ilen
  obtain ⟨c, HC⟩ : ∃ c, Hid (zs.contains v = c) := ⟨_, rfl⟩
  rw [HC.out]
  rcases hf with rfl | rfl
  · go_enter Try.func149, Try.ntmps149
    go_wp2
    go_loop [5] (fun i => ∃ k : Nat, k ≤ n ∧ i = .int .i64 k ∧ Hid ((zs.take k).contains v = false)) (fun i => n - (intOf i).toNat)
    case atStart => exact ⟨0, Nat.zero_le _, rfl, rfl⟩
    case round =>
      obtain ⟨k, hk, rfl, HH⟩ := hrel
      by_cases hlt : k < n
      · have hkl : k < zs.length := by have := HL.out; omega
        have HY := hid (fun he => Ch.has_yes (v := v) hkl he)
        have HN := hid (Ch.has_snocI (v := v) hkl)
        obtain ⟨b, off, rfl, hc0⟩ := h.int hlt
        have hbl := lt_of_cell hc0
        generalize zs.getD k 0 = z at *
        by_cases he : z = v
        · replace HY := hid (HY.out he)
          have e1 : (z == v) = true := by simpa using he
          clear he HN
          go_wp2
          go_ret
          exact ⟨ret_bool (HY.out.symm.trans HC.out), rfl⟩
        · have e1 : (z == v) = false := by simpa using he
          rw [HH.out, e1] at HN
          clear he HY
          go_wp2
          go_round
          case rel => exact ⟨k + 1, by omega, by go_num, HN.out⟩
          case measure => simp [intOf]; omega
      · obtain rfl : k = n := by omega
        go_wp2
        go_ret
        exact ⟨ret_bool (by have h1 := HH.out; have h2 := HL.out; rw [h2, List.take_length] at h1; exact h1.symm.trans HC.out), rfl⟩
  · go_enter Try.func34, Try.ntmps34
    go_wp2
    go_loop [5] (fun i => ∃ k : Nat, k ≤ n ∧ i = .int .i64 k ∧ Hid ((zs.take k).contains v = false)) (fun i => n - (intOf i).toNat)
    case atStart => exact ⟨0, Nat.zero_le _, rfl, rfl⟩
    case round =>
      obtain ⟨k, hk, rfl, HH⟩ := hrel
      by_cases hlt : k < n
      · have hkl : k < zs.length := by have := HL.out; omega
        have HY := hid (fun he => Ch.has_yes (v := v) hkl he)
        have HN := hid (Ch.has_snocI (v := v) hkl)
        obtain ⟨b, off, rfl, hc0⟩ := h.int hlt
        have hbl := lt_of_cell hc0
        generalize zs.getD k 0 = z at *
        by_cases he : z = v
        · replace HY := hid (HY.out he)
          have e1 : (z == v) = true := by simpa using he
          clear he HN
          go_wp2
          go_ret
          exact ⟨ret_bool (HY.out.symm.trans HC.out), rfl⟩
        · have e1 : (z == v) = false := by simpa using he
          rw [HH.out, e1] at HN
          clear he HY
          go_wp2
          go_round
          case rel => exact ⟨k + 1, by omega, by go_num, HN.out⟩
          case measure => simp [intOf]; omega
      · obtain rfl : k = n := by omega
        go_wp2
        go_ret
        exact ⟨ret_bool (by have h1 := HH.out; have h2 := HL.out; rw [h2, List.take_length] at h1; exact h1.symm.trans HC.out), rfl⟩

set_option maxHeartbeats 1000000 in
theorem l7Victim_any (a a2 : Option Addr) (n cap n2 cap2 : Nat) (cyc sys : List Int) (w : World) (h : CellsAt w a (n * 1) (icells cyc)) (h2 : CellsAt w a2 (n2 * 1) (icells sys)) (hn : n ≤ 1048576) (hn2 : n2 ≤ 1048576) :
    Calls Try.prog 101 #[.slice a n cap, .slice a2 n2 cap2] w fun e w' => e = .returned (.int .i64 (Ch.vicF cyc sys).1) ∧ w' = w := by
  have HL := h.ilen
  go_enter Try.func101, Try.ntmps101
  go_wp2
  go_loop [5, 6, 7] (fun q s i => ∃ (k : Nat) (b : Int) (y : Bool), k ≤ n ∧ i = .int .i64 k ∧ q = .int .i64 b ∧ s = .bool y ∧ Hid (Ch.vicF (cyc.take k) sys = (b, y))) (fun _ _ i => n - (intOf i).toNat)
  case atStart => exact ⟨0, 0, false, Nat.zero_le _, rfl, rfl, rfl, rfl⟩
  case round =>
    obtain ⟨k, bst, y, hk, rfl, rfl, rfl, HH⟩ := hrel
    by_cases hlt : k < n
    · have hkl : k < cyc.length := by have := HL.out; omega
      have HN : Hid (Ch.vicF (cyc.take (k + 1)) sys = Ch.vicStep sys (bst, y) (cyc.getD k 0)) := by
        show _ = _
        rw [Ch.take_snoc cyc 0 k hkl, Ch.vicF_snoc, HH.out]
      obtain ⟨b, off, rfl, hc0⟩ := h.int hlt
      have hbl := lt_of_cell hc0
      generalize cyc.getD k 0 = z at *
      have IA := fun W hW => among_any 149 (.inl rfl) a2 n2 cap2 z sys W hW (by omega)
      unfold Ch.vicStep at HN
      generalize sys.contains z = c at *
      clear HH
      cases y
      all_goals cases c
      · by_cases hg : bst < z
        · have e1 : Hid (Ch.vicF (cyc.take (k + 1)) sys = (z, false)) := by have := HN.out; show _ = _; simpa [hg] using this
          clear HN
          go_wp2_with fail
          refine (IA _ h2).mono ?_
          rintro e w1 ⟨rfl, rfl⟩
          go_wp2
          go_round
          case rel => exact ⟨k + 1, z, false, by omega, by go_num, rfl, rfl, e1.out⟩
          case measure => simp [intOf]; omega
        · have e1 : Hid (Ch.vicF (cyc.take (k + 1)) sys = (bst, false)) := by have := HN.out; show _ = _; simpa [hg] using this
          clear HN
          go_wp2_with fail
          refine (IA _ h2).mono ?_
          rintro e w1 ⟨rfl, rfl⟩
          go_wp2
          go_round
          case rel => exact ⟨k + 1, bst, false, by omega, by go_num, rfl, rfl, e1.out⟩
          case measure => simp [intOf]; omega
      · have e1 : Hid (Ch.vicF (cyc.take (k + 1)) sys = (z, true)) := by have := HN.out; show _ = _; simpa using this
        clear HN
        go_wp2_with fail
        refine (IA _ h2).mono ?_
        rintro e w1 ⟨rfl, rfl⟩
        go_wp2
        go_round
        case rel => exact ⟨k + 1, z, true, by omega, by go_num, rfl, rfl, e1.out⟩
        case measure => simp [intOf]; omega
      · have e1 : Hid (Ch.vicF (cyc.take (k + 1)) sys = (bst, true)) := by have := HN.out; show _ = _; simpa using this
        clear HN
        go_wp2_with fail
        refine (IA _ h2).mono ?_
        rintro e w1 ⟨rfl, rfl⟩
        go_wp2
        go_round
        case rel => exact ⟨k + 1, bst, true, by omega, by go_num, rfl, rfl, e1.out⟩
        case measure => simp [intOf]; omega
      · by_cases hg : bst < z
        · have e1 : Hid (Ch.vicF (cyc.take (k + 1)) sys = (z, true)) := by have := HN.out; show _ = _; simpa [hg] using this
          clear HN
          go_wp2_with fail
          refine (IA _ h2).mono ?_
          rintro e w1 ⟨rfl, rfl⟩
          go_wp2
          go_round
          case rel => exact ⟨k + 1, z, true, by omega, by go_num, rfl, rfl, e1.out⟩
          case measure => simp [intOf]; omega
        · have e1 : Hid (Ch.vicF (cyc.take (k + 1)) sys = (bst, true)) := by have := HN.out; show _ = _; simpa [hg] using this
          clear HN
          go_wp2_with fail
          refine (IA _ h2).mono ?_
          rintro e w1 ⟨rfl, rfl⟩
          go_wp2
          go_round
          case rel => exact ⟨k + 1, bst, true, by omega, by go_num, rfl, rfl, e1.out⟩
          case measure => simp [intOf]; omega
    · obtain rfl : k = n := by omega
      have HE : Hid ((Ch.vicF cyc sys).1 = bst) := by have h1 := HH.out; have h2 := HL.out; rw [h2, List.take_length] at h1; show _ = _; rw [h1]
      go_wp2
      go_ret
      exact ⟨ret_int HE.out.symm, rfl⟩

theorem slicesMax_any (a : Option Addr) (n cap : Nat) (zs : List Int) (w : World) (h : CellsAt w a (n * 1) (icells zs)) (hn : n ≤ 1048576) (h0 : 0 < n) (hz : 0 ≤ zs.getD 0 0) :
    Calls Try.prog 100 #[.slice a n cap] w fun e w' => e = .returned (.int .i64 (Ch.maxL zs)) ∧ w' = w := by
  have HL := h.ilen
  have H1 : Hid (Ch.maxL (zs.take 1) = zs.getD 0 0) := by
    show _ = _
    rw [Ch.take_snoc zs 0 0 (by have := HL.out; omega)]
    show max 0 (zs.getD 0 0) = _
    omega
  clear hz
  obtain ⟨b, off, rfl, hd0⟩ := h.int h0
  rw [Nat.add_zero] at hd0
  have hbd := lt_of_cell hd0
  generalize zs.getD 0 0 = z0 at *
  go_enter Try.func100, Try.ntmps100
  go_wp2
  go_loop [3, 4] (fun q i => ∃ (k : Nat) (m : Int), k ≤ n ∧ 1 ≤ k ∧ i = .int .i64 k ∧ q = .int .i64 m ∧ Hid (Ch.maxL (zs.take k) = m)) (fun _ i => n - (intOf i).toNat)
  case atStart => exact ⟨1, z0, by omega, by omega, rfl, rfl, H1.out⟩
  case round =>
    obtain ⟨k, m, hk, hk1, rfl, rfl, HH⟩ := hrel
    by_cases hlt : k < n
    · have hkl : k < zs.length := by have := HL.out; omega
      have HN : Hid (Ch.maxL (zs.take (k + 1)) = max m (zs.getD k 0)) := by
        show _ = _
        rw [Ch.take_snoc zs 0 k hkl, Ch.maxL_snoc, HH.out]
      obtain ⟨b', off', hbo, hc0⟩ := h.int hlt
      simp only [Option.some.injEq, Addr.mk.injEq, and_true] at hbo
      obtain ⟨rfl, rfl⟩ := hbo
      generalize zs.getD k 0 = z at *
      by_cases hg : m < z
      · have e1 : Hid (Ch.maxL (zs.take (k + 1)) = z) := by have := HN.out; show _ = _; rw [this]; omega
        have e2 : max m z = z := by omega
        clear HN HH
        go_wp2
        go_round
        case rel => exact ⟨k + 1, z, by omega, by omega, by go_num, by go_num, e1.out⟩
        case measure => simp [intOf]; omega
      · have e1 : Hid (Ch.maxL (zs.take (k + 1)) = m) := by have := HN.out; show _ = _; rw [this]; omega
        have e2 : max m z = m := by omega
        clear HN HH
        go_wp2
        go_round
        case rel => exact ⟨k + 1, m, by omega, by omega, by go_num, by go_num, e1.out⟩
        case measure => simp [intOf]; omega
    · obtain rfl : k = n := by omega
      have HE : Hid (Ch.maxL zs = m) := by have h1 := HH.out; have h2 := HL.out; rw [h2, List.take_length] at h1; exact h1
      go_wp2
      go_ret
      exact ⟨ret_int HE.out.symm, rfl⟩
end Go.Proofs.Ytbeolkklnlljcaa
