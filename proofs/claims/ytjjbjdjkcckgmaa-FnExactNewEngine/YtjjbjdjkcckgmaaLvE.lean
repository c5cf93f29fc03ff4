
/- Walks on leaves: comparisons; LeavesFault of the model and of the program. -/
import Derived.Test.YtjjbjdjkcckgmaaLvW
namespace Go.Proofs.Ytjjbjdjkcckgmaa
open Go.RowKit

set_option maxHeartbeats 400000 in
theorem eqLeaf_same (a a' : Option Addr) (n cap cap' : Nat) (rs : List Ch.Row) (w : World) (h : CellsAt w a (n * 3) (rcells rs)) (h' : CellsAt w a' (n * 3) (rcells rs)) (hn : n ≤ 1099511627776) :
    Calls Try.prog 70 #[.agg #[.slice a n cap], .agg #[.slice a' n cap']] w fun e w' => e = .returned (.bool true) ∧ Below w.heap.size w w' := by
  have b0 : Below w.heap.size w ((w.alloc (.cells #[.slice a n cap] 65)).alloc (.cells #[.slice a' n cap'] 65)) := ((Below.refl _ _).alloc (Nat.le_refl _) _).alloc (by simp) _
  go_enter Try.func70, Try.ntmps70
  go_wp2_with fail
  refine (eqRowS_same a a' n cap cap' rs _ (h.below b0) (h'.below b0) hn).mono ?_
  rintro e w1 ⟨rfl, b1⟩
  go_wp2
  go_ret
  exact ⟨rfl, b0.trans (b1.mono (by simp; omega))⟩

set_option maxHeartbeats 400000 in
theorem eqLeafS_same (a a' : Option Addr) (n cap cap' : Nat) (ls : List (List Ch.Row)) (w : World) (h : LvAt w a n ls) (h' : LvAt w a' n ls) (hs : Ch.lvSize ls ≤ 1048576) :
    Calls Try.prog 39 #[.slice a n cap, .slice a' n cap'] w fun e w' => e = .returned (.bool true) ∧ Below w.heap.size w w' := by
  have HL := h.len
  have hn : n ≤ 1048576 := by unfold Ch.lvSize at hs; have := HL.out; omega
  have hnn : ((n : Int) != n) = false := by simp
  go_enter Try.func39, Try.ntmps39
  go_wp2
  go_loopw [5] (fun i wr => ∃ k : Nat, k ≤ n ∧ i = .int .i64 k ∧ Below w.heap.size w wr) (fun i _ => n - (intOf i).toNat)
  case atStart => exact ⟨0, Nat.zero_le _, rfl, Below.refl _ _⟩
  case round =>
    obtain ⟨k, hk, rfl, hB⟩ := hrel
    by_cases hlt : k < n
    · have HS := hid (Ch.lv_leaf hs k)
      obtain ⟨b, off, ai, ni, ci, rfl, hc, hr, hni⟩ := (h.below hB).leaf hlt
      obtain ⟨b', off', ai', ni', ci', rfl, hc', hr', hni'⟩ := (h'.below hB).leaf hlt
      have HR := hr.rlen
      have HR' := hr'.rlen
      obtain rfl : ni' = ni := HR'.out.trans HR.out.symm
      have hni : ni' ≤ 1099511627776 := by have := HS.out; have := HR.out; omega
      generalize ls.getD k [] = l at *
      go_wp2
      go_region_with (go_at_call 70; refine (eqLeaf_same _ _ _ _ _ l _ (by assumption) (by assumption) hni).mono ?_; rintro e w1 ⟨rfl, b1⟩)
      all_goals
        have b1' : Below wr.heap.size wr _ := ⟨b1.os, b1.tape, b1.output, b1.size, b1.block⟩
        clear b1
        go_wp2
        go_roundw
        case rel => exact ⟨k + 1, by omega, by go_num, hB.trans (b1'.mono hB.size)⟩
        case measure => simp [intOf]; omega
    · obtain rfl : k = n := by omega
      go_wp2
      go_ret
      exact ⟨rfl, hB⟩

theorem lastKey_any (a : Option Addr) (n cap : Nat) (rs : List Ch.Row) (w : World) (h : CellsAt w a (n * 3) (rcells rs)) (h0 : n ≠ 0) (hn : n ≤ 1099511627776) :
    Calls Try.prog 63 #[.agg #[.slice a n cap]] w fun e w' => e = .returned (.int .i64 (Ch.lastK rs)) ∧ Below w.heap.size w w' := by
  obtain ⟨m, rfl⟩ : ∃ m, n = m + 1 := ⟨n - 1, by omega⟩
  have HL := h.rlen
  obtain ⟨b, off, rfl, hc0, hc1, hc2⟩ := h.row (k := m) (by omega)
  have HK : Hid (Ch.lastK rs = (rs.getD m Ch.Row.zero).k) := by
    show _ = _
    have := HL.out
    rw [Ch.lastK, ← this]; rfl
  have hbl := lt_of_cell hc0
  generalize rs.getD m Ch.Row.zero = r at *
  obtain ⟨rk, rv, rg⟩ := r
  simp only at hc0 hc1 hc2 HK
  go_enter Try.func63, Try.ntmps63
  go_wp2
  go_ret
  exact ⟨ret_int HK.out.symm, (Below.refl _ _).alloc (Nat.le_refl _) _⟩

end Go.Proofs.Ytjjbjdjkcckgmaa
