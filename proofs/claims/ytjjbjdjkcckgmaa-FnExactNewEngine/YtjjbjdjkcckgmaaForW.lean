
/- LeafFor: the model's and the program's walks. -/
import Derived.Test.YtjjbjdjkcckgmaaLvF
import Derived.Test.YtjjbjdjkcckgmaaForM
namespace Go.Proofs.Ytjjbjdjkcckgmaa
open Go.RowKit

set_option maxHeartbeats 400000 in
theorem specFor_any (a : Option Addr) (n cap : Nat) (key : Int) (ls : List (List Ch.Row)) (w : World) (h : LvAt w a n ls) (hs : Ch.lvSize ls ≤ 1048576) (hg : ∀ k, k < n → (ls.getD k []).length ≠ 0) :
    Calls Try.prog 28 #[.slice a n cap, .int .i64 key] w fun e w' => e = .returned (.int .i64 (Ch.forAt ls key n)) ∧ w' = w := by
  have HL := h.len
  have hn : n ≤ 1048576 := by unfold Ch.lvSize at hs; have := HL.out; omega
  go_enter Try.func28, Try.ntmps28
  go_wp2
  go_loop [5, 6] (fun q i => ∃ k : Nat, k ≤ n ∧ i = .int .i64 k ∧ q = .int .i64 (Ch.forAt ls key k)) (fun _ i => n - (intOf i).toNat)
  case atStart => exact ⟨0, Nat.zero_le _, rfl, rfl⟩
  case round =>
    obtain ⟨k, hk, rfl, rfl⟩ := hrel
    by_cases hlt : k < n
    · have HS := hid (Ch.lv_leaf hs k)
      have HY := hid (fun hle => Ch.forAt_yes (ls := ls) (key := key) (k := k) hle)
      have HN := hid (fun hle => Ch.forAt_no (ls := ls) (key := key) (k := k) hle)
      have hg0 := hg k hlt
      obtain ⟨b, off, ai, ni, ci, rfl, hc, hr, hni⟩ := h.leaf hlt
      have HRl := hr.rlen
      have hni' : ni ≤ 1048576 := by have := HS.out; have := HRl.out; omega
      obtain ⟨m, rfl⟩ : ∃ m, ni = m + 1 := ⟨ni - 1, by have := HRl.out; omega⟩
      obtain ⟨b1, o1, rfl, q0, _, _⟩ := hr.row (k := 0) (by omega)
      simp only [Nat.zero_mul, Nat.add_zero] at q0
      have HFK : Hid (Ch.firstK (ls.getD k []) = ((ls.getD k []).getD 0 Ch.Row.zero).k) := rfl
      generalize ls.getD k [] = l at *
      generalize (l.getD 0 Ch.Row.zero).k = fk at *
      generalize Ch.forAt ls key k = q at *
      by_cases hle : fk ≤ key
      · go_wp2
        go_round
        case rel => exact ⟨k + 1, by omega, by go_num, by rw [HY.out (by rw [HFK.out]; exact hle)]⟩
        case measure => simp [intOf]; omega
      · go_wp2
        go_round
        case rel => exact ⟨k + 1, by omega, by go_num, by rw [HN.out (by rw [HFK.out]; exact hle)]⟩
        case measure => simp [intOf]; omega
    · obtain rfl : k = n := by omega
      go_wp2
      go_ret
      exact ⟨rfl, rfl⟩

theorem leafFor_code {ls : List (List Ch.Row)} {key : Int} (hc : (Ch.asked ls key != 0) = true) : Ch.leafFor ls key = (Ch.asked ls key, 0) := by
  rw [Ch.leafFor, if_pos hc]
theorem leafFor_none {ls : List (List Ch.Row)} {key : Int} (hc : (Ch.asked ls key != 0) = false) (h0 : ls.length = 0) : Ch.leafFor ls key = (4, 0) := by
  rw [Ch.leafFor, if_neg (by rw [hc]; exact Bool.false_ne_true), if_pos h0]
theorem leafFor_ok {ls : List (List Ch.Row)} {key : Int} (hc : (Ch.asked ls key != 0) = false) (h0 : ls.length ≠ 0) : Ch.leafFor ls key = (0, (Ch.forAt ls key ls.length : Int)) := by
  rw [Ch.leafFor, if_neg (by rw [hc]; exact Bool.false_ne_true), if_neg h0]

/-- A box of two cells behind a call. -/
theorem box2 {w w1 : World} {t : TypeId} {c0 c1 : Value} (b : Below (w.alloc (.cells #[c0, c1] t)).heap.size (w.alloc (.cells #[c0, c1] t)) w1) :
    w1.cell? ⟨w.heap.size, 0, none⟩ = some c0 ∧ w1.cell? ⟨w.heap.size, 1, none⟩ = some c1 := ⟨box_cell b 0, box_cell b 1⟩
theorem box_froz {w w1 : World} {t : TypeId} {cs : Array Value} (b : Below (w.alloc (.cells cs t)).heap.size (w.alloc (.cells cs t)) w1) (i : Nat) : w1.frozen? ⟨w.heap.size, i, none⟩ = false := by
  rw [(bcell b).2 w.heap.size i (by simp)]
  simp [go_sem]

/-- Keys as values. -/
def kts (ks : List Int) : List Value := ks.map (Value.int .i64)
theorem keys_at {w : World} {a : Option Addr} {n : Nat} {ks : List Int} (h : CellsAt w a n (kts ks)) {k : Nat} (hk : k < n) :
    ∃ b off, a = some ⟨b, off, none⟩ ∧ w.cell? ⟨b, off + k, none⟩ = some (.int .i64 (ks.getD k 0)) := by
  obtain ⟨b, off, ha, hc⟩ := h.2 (by omega)
  refine ⟨b, off, ha, ?_⟩
  have hl : ks.length = n := by simpa [kts] using h.1
  rw [hc k hk]
  simp [kts, List.getD, show k < ks.length by omega]

/-- What is asked first: the leaves, the keys. -/
def Ch.askedAll (ls : List (List Ch.Row)) (ks : List Int) : Int := if leavesFault ls != 0 then leavesFault ls else if ks.all (fun k => inB k 0 99) then 0 else 3

set_option maxHeartbeats 400000 in
theorem implKeys_any (a : Option Addr) (n cap : Nat) (ls : List (List Ch.Row)) (ak : Option Addr) (nk ck : Nat) (ks : List Int) (w : World) (h : LvAt w a n ls) (hs : Ch.lvSize ls ≤ 1048576) (hk : CellsAt w ak nk (kts ks)) (hnk : nk ≤ 1048576) :
    Calls Try.prog 67 #[.slice a n cap, .slice ak nk ck] w fun e w' => e = .returned (.int .i64 (Ch.askedAll ls ks)) ∧ Below w.heap.size w w' := by
  have hkl : ks.length = nk := by simpa [kts] using hk.1
  cases hf : (Ch.leavesFault ls != 0)
  · have HA := hid (show Ch.askedAll ls ks = if ks.all (fun k => Ch.inB k 0 99) then 0 else 3 by rw [Ch.askedAll, if_neg (by rw [hf]; exact Bool.false_ne_true)])
    have HKl := hid hkl
    clear hkl
    go_enter Try.func67, Try.ntmps67
    go_wp2_with fail
    refine (implLeaves_any a n cap ls _ h hs).mono ?_
    rintro e w1 ⟨rfl, b1⟩
    have hk1 := hk.below b1
    go_wp2
    go_loop [15] (fun i => ∃ k : Nat, k ≤ nk ∧ i = .int .i64 k ∧ Hid (∀ j, j < k → Ch.inB (ks.getD j 0) 0 99 = true)) (fun i => nk - (intOf i).toNat)
    case atStart => exact ⟨0, Nat.zero_le _, rfl, fun j hj => absurd hj (by omega)⟩
    case round =>
      obtain ⟨k, hkn, rfl, HP⟩ := hrel
      by_cases hlt : k < nk
      · obtain ⟨b, off, rfl, hc⟩ := keys_at hk1 hlt
        cases hin : Ch.inB (ks.getD k 0) 0 99
        · have HB : Hid (Ch.askedAll ls ks = 3) := by
            show _ = _
            rw [HA.out, if_neg]
            intro hall
            rw [List.all_eq_true] at hall
            have := hall (ks[k]'(by rw [HKl.out]; exact hlt)) (List.getElem_mem _)
            rw [show ks.getD k 0 = ks[k]'(by rw [HKl.out]; exact hlt) by simp [List.getD, HKl.out, hlt]] at hin
            rw [hin] at this
            cases this
          generalize ks.getD k 0 = kk at *
          go_wp2_with fail
          refine (isKey_any kk _).mono ?_
          rintro e w2 ⟨rfl, rfl⟩
          rw [hin]
          go_wp2
          go_ret
          exact ⟨ret_int HB.out.symm, b1⟩
        · have HP' : Hid (∀ j, j < k + 1 → Ch.inB (ks.getD j 0) 0 99 = true) := by
            intro j hj
            by_cases hjk : j = k
            · rw [hjk]; exact hin
            · exact HP.out j (by omega)
          generalize ks.getD k 0 = kk at *
          go_wp2_with fail
          refine (isKey_any kk _).mono ?_
          rintro e w2 ⟨rfl, rfl⟩
          rw [hin]
          go_wp2
          go_round
          case rel => exact ⟨k + 1, by omega, by go_num, HP'⟩
          case measure => simp [intOf]; omega
      · obtain rfl : k = nk := by omega
        go_wp2
        go_ret
        refine ⟨ret_int ?_, b1⟩
        rw [HA.out, if_pos]
        rw [List.all_eq_true]
        intro x hx
        obtain ⟨j, hj, rfl⟩ := List.getElem_of_mem hx
        have := HP.out j (by have := HKl.out; omega)
        rwa [show ks.getD j 0 = ks[j] by simp [List.getD, hj]] at this
  · go_enter Try.func67, Try.ntmps67
    go_wp2_with fail
    refine (implLeaves_any a n cap ls _ h hs).mono ?_
    rintro e w1 ⟨rfl, b1⟩
    go_wp2
    go_ret
    exact ⟨ret_int (by simp [Ch.askedAll, hf]), b1⟩

theorem askedAll_one (ls : List (List Ch.Row)) (key : Int) : Ch.askedAll ls [key] = Ch.asked ls key := by
  simp [Ch.askedAll, Ch.asked]

end Go.Proofs.Ytjjbjdjkcckgmaa
