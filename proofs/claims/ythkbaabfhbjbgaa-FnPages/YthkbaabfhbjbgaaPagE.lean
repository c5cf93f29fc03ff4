/- The law's small functions: is it big, are rows alike; bytes as a string. -/
import Derived.Test.YthkbaabfhbjbgaaPagD
import Derived.Laws.BytesArg
namespace Go.Proofs.Ythkbaabfhbjbgaa
open Go.RowKit

theorem big_any (a : Option Addr) (n cap : Nat) (w : World) :
    Calls Try.prog 9 #[.slice a n cap] w fun e w' => e = .returned (.bool (decide ((1048576 : Int) < n))) ∧ w' = w := by
  go_enter Try.func9, Try.ntmps9
  go_wp2
  go_ret
  exact ⟨rfl, rfl⟩

theorem conv_at {w : World} {a : Option Addr} {n : Nat} {zs : List Int} (h : CellsAt w a n (bts zs)) (hn : 0 < n) (cap : Nat) :
    (convert 22 9 (.slice a n cap)).run Try.prog w = .ok (.string (strOfNums zs)) w := by
  have hl := h.len.out
  obtain ⟨b, off, rfl, hc⟩ := h.2 hn
  refine run_convert_bytes_arg w 22 5 Try.underlying22 Try.underlying5 b off n cap zs hl.symm (fun i hi => ?_) 9 Try.underlying9
  rw [hc i hi]
  simp [bts, List.getD, show i < zs.length by omega]

set_option maxHeartbeats 1000000 in
theorem lwRows_same (a a' : Option Addr) (n cap cap' : Nat) (rs : List Ch.Row) (w : World) (h : CellsAt w a (n * 3) (rcells rs)) (h' : CellsAt w a' (n * 3) (rcells rs)) (hn : n ≤ 1099511627776) :
    Calls Try.prog 18 #[.slice a n cap, .slice a' n cap'] w fun e w' => e = .returned (.bool true) ∧ Below w.heap.size w w' := by
  have HL := h.rlen
  have hnn : ((n : Int) != n) = false := by simp
  go_enter Try.func18, Try.ntmps18
  go_wp2
  go_loopw [5] (fun i wr => ∃ k : Nat, k ≤ n ∧ i = .int .i64 k ∧ Below w.heap.size w wr) (fun i _ => n - (intOf i).toNat)
  case atStart => exact ⟨0, Nat.zero_le _, rfl, Below.refl _ _⟩
  case round =>
    obtain ⟨k, hk, rfl, hB⟩ := hrel
    by_cases hlt : k < n
    · obtain ⟨b, off, rfl, hc0, hc1, hc2⟩ := (h.below hB).row hlt
      obtain ⟨b', off', rfl, hd0, hd1, hd2⟩ := (h'.below hB).row hlt
      generalize rs.getD k Ch.Row.zero = r at *
      obtain ⟨rk, rv, rg⟩ := r
      simp only at hc0 hc1 hc2 hd0 hd1 hd2
      go_wp2
      go_quiet (fail)
      go_wp2
      go_roundw
      case rel => exact ⟨k + 1, by omega, by go_num, below_drewN hB _⟩
      case measure => simp [intOf]; omega
    · obtain rfl : k = n := by omega
      go_wp2
      go_ret
      exact ⟨rfl, hB⟩
end Go.Proofs.Ythkbaabfhbjbgaa
