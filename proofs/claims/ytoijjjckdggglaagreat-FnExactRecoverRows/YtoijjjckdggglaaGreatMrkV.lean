
/- Marks of bytes from any number on. -/
import Derived.Test.YtoijjjckdggglaaGreatSmall
namespace Go.Proofs.YtoijjjckdggglaaGreat
open Go.RowKit

namespace Ch
/-- Marks from q on, modulo 256. -/
def marksV (q n : Nat) : List Int := (List.range n).map fun (i : Nat) => ((q : Int) + (i : Int)) % 256
theorem marksV_len (q n : Nat) : (marksV q n).length = n := by simp [marksV]
theorem marksV_snoc (q n : Nat) : marksV q (n + 1) = marksV q n ++ [((q : Int) + (n : Int)) % 256] := by simp [marksV, List.range_succ]
theorem marksV_at (q n k : Nat) (h : k < n) : (marksV q n).getD k 0 = ((q : Int) + (k : Int)) % 256 := by simp [marksV, List.getD, h]
end Ch

def markedV (q : Nat) (zs : List Int) (k : Nat) : List Int := Ch.marksV q k ++ zs.drop k
theorem markedV_set (q : Nat) (zs : List Int) (k : Nat) (h : k < zs.length) : (bts (markedV q zs k)).set k (.int .u8 (((q : Int) + (k : Int)) % 256)) = bts (markedV q zs (k + 1)) := by
  rw [bts_set]
  unfold markedV
  rw [Ch.set_mid _ _ _ _ (Ch.marksV_len q k) h, Ch.marksV_snoc]

set_option maxHeartbeats 400000 in
theorem markV_some (q B g n cp : Nat) (zs : List Int) (w : World) (hown : w.ownsRow B 5 1 (.slice (some ⟨g, 0, none⟩) n cp) n (bts zs)) (hn : n ≤ 2097152) (hq : q ≤ 4194304) :
    Calls Tryz.prog 13 #[.slice (some ⟨g, 0, none⟩) n cp, .int .i64 q] w fun e w' => e = .returned (.int .i64 (q + n)) ∧ w'.ownsRow B 5 1 (.slice (some ⟨g, 0, none⟩) n cp) n (bts (Ch.marksV q n)) ∧ w.grownBy w' (some g) := by
  have HL : Hid (n = zs.length) := by
    have := hown.1
    simp [bts] at this
    exact this.symm
  go_enter Tryz.func13, Tryz.ntmps13
  go_wp2
  go_loopw [1, 5] (fun v i wr => ∃ k : Nat, k ≤ n ∧ i = .int .i64 k ∧ v = .int .i64 ((q : Int) + (k : Int)) ∧ wr.ownsRow B 5 1 (.slice (some ⟨g, 0, none⟩) n cp) n (bts (markedV q zs k)) ∧ w.grownBy wr (some g)) (fun _ i _ => n - (intOf i).toNat)
  case atStart => exact ⟨0, Nat.zero_le _, rfl, by simp, by simpa [markedV, Ch.marksV] using hown, ⟨rfl, rfl, rfl, Nat.le_refl _, fun _ _ _ => rfl⟩⟩
  case round =>
    obtain ⟨k, hk, rfl, rfl, own, gr⟩ := hrel
    by_cases hlt : k < n
    · have hf := own.frozenAt k
      obtain ⟨u0, hc⟩ := owns_some own (j := k) (by omega)
      have hS := own.stored k (.int .u8 (((q : Int) + (k : Int)) % 256))
      rw [markedV_set q zs k (by have := HL.out; omega)] at hS
      go_wp2
      go_roundw
      case rel => exact ⟨k + 1, by omega, by go_num, by go_num, hS.1, gr_trans gr hS.2⟩
      case measure => simp [intOf]; omega
    · obtain rfl : k = n := by omega
      go_wp2
      go_ret
      refine ⟨rfl, ?_, gr⟩
      have := HL.out
      simpa [markedV, this] using own

theorem markV_nil (q : Nat) (w : World) (_hq : q ≤ 4194304) : Calls Tryz.prog 13 #[.slice none 0 0, .int .i64 q] w fun e w' => e = .returned (.int .i64 q) ∧ w' = w := by
  go_enter Tryz.func13, Tryz.ntmps13
  go_wp2
  go_loop [1, 5] (fun v i => i = .int .i64 0 ∧ v = .int .i64 q) (fun _ _ => 0)
  case atStart => exact ⟨rfl, rfl⟩
  case round =>
    obtain ⟨rfl, rfl⟩ := hrel
    go_wp2
    go_ret
    exact ⟨rfl, rfl⟩

theorem markV_any (q B : Nat) (a : Option Addr) (n cp : Nat) (zs : List Int) (w : World) (hown : w.ownsRow B 5 1 (.slice a n cp) n (bts zs)) (hn : n ≤ 2097152) (hq : q ≤ 4194304) :
    Calls Tryz.prog 13 #[.slice a n cp, .int .i64 q] w fun e w' => e = .returned (.int .i64 ((q + n : Nat) : Int)) ∧ w'.ownsRow B 5 1 (.slice a n cp) n (bts (Ch.marksV q n)) ∧ w.grownBy w' (Value.slice a n cp).ownBlock := by
  rcases hown.2 with ⟨hv, h0⟩ | ⟨g, cp', cur, hv, _⟩
  · simp only [Value.slice.injEq] at hv
    obtain ⟨rfl, rfl, rfl⟩ := hv
    refine (markV_nil q w hq).mono ?_
    rintro e w' ⟨rfl, rfl⟩
    exact ⟨rfl, World.ownsRow_nil _ _ _ _, ⟨rfl, rfl, rfl, Nat.le_refl _, fun _ _ _ => rfl⟩⟩
  · simp only [Value.slice.injEq, true_and] at hv
    obtain ⟨rfl, rfl⟩ := hv
    refine (markV_some q B g n cp zs w hown hn hq).mono ?_
    rintro e w' ⟨rfl, o, gr⟩
    exact ⟨by rw [Int.natCast_add], o, gr⟩

end Go.Proofs.YtoijjjckdggglaaGreat
