
/- Lists of numbers: cells, comparisons, marks. -/
import Derived.Test.YtoijjjckdggglaaGreatSmall
import Derived.Test.YtoijjjckdggglaaGreatHd
namespace Go.Proofs.YtoijjjckdggglaaGreat
open Go.RowKit

def icells (zs : List Int) : List Value := zs.map (Value.int .i64)
theorem icells_len (zs : List Int) : (icells zs).length = zs.length := by simp [icells]
theorem icells_append (a b : List Int) : icells (a ++ b) = icells a ++ icells b := by simp [icells]
theorem icells_one' (zs : List Int) : ∀ u ∈ icells zs, u.oneCell' = true := by
  intro x hx
  simp only [icells, List.mem_map] at hx
  obtain ⟨r, _, rfl⟩ := hx
  rfl
theorem Tryz.info2 : (Tryz.prog.info? 2).map (fun i => (i.zero, i.size, i.bytes)) = some (some (.int .i64 0), 1, 8) := by kernel_rfl
theorem CellsAt.ilen {w : World} {a : Option Addr} {n : Nat} {zs : List Int} (h : CellsAt w a (n * 1) (icells zs)) : Hid (n = zs.length) := by
  have := h.1
  rw [icells_len] at this
  exact (by omega : n = zs.length)
theorem CellsAt.int {w : World} {a : Option Addr} {n : Nat} {zs : List Int} (h : CellsAt w a (n * 1) (icells zs)) {k : Nat} (hk : k < n) :
    ∃ b off, a = some ⟨b, off, none⟩ ∧ w.cell? ⟨b, off + k, none⟩ = some (.int .i64 (zs.getD k 0)) := by
  obtain ⟨b, off, ha, hc⟩ := h.2 (by omega)
  have hl := h.ilen.out
  refine ⟨b, off, ha, (hc k (by omega)).trans ?_⟩
  simp [icells, List.getD, show k < zs.length by omega]
theorem icells_set (zs : List Int) (k : Nat) (v : Int) : (icells zs).set k (.int .i64 v) = icells (zs.set k v) := by simp [icells, List.map_set]

set_option maxHeartbeats 400000 in
theorem eqInts_same (a a' : Option Addr) (n cap cap' : Nat) (zs : List Int) (w : World) (h : CellsAt w a (n * 1) (icells zs)) (h' : CellsAt w a' (n * 1) (icells zs)) (hn : n ≤ 4194304) :
    Calls Tryz.prog 21 #[.slice a n cap, .slice a' n cap'] w fun e w' => e = .returned (.bool true) ∧ Below w.heap.size w w' := by
  have hnn : ((n : Int) != n) = false := by simp
  go_enter Tryz.func21, Tryz.ntmps21
  go_wp2
  go_loopw [5] (fun i wr => ∃ k : Nat, k ≤ n ∧ i = .int .i64 k ∧ Below w.heap.size w wr) (fun i _ => n - (intOf i).toNat)
  case atStart => exact ⟨0, Nat.zero_le _, rfl, Below.refl _ _⟩
  case round =>
    obtain ⟨k, hk, rfl, hB⟩ := hrel
    by_cases hlt : k < n
    · obtain ⟨b, off, rfl, hc0⟩ := (h.below hB).int hlt
      obtain ⟨b', off', rfl, hd0⟩ := (h'.below hB).int hlt
      generalize zs.getD k 0 = r at *
      have hbl := lt_of_cell hc0
      have hbl' := lt_of_cell hd0
      have hrr : (r != r) = false := by simp
      go_wp2
      go_quiet (fail)
      go_wp2
      go_roundw
      case rel => exact ⟨k + 1, by omega, by go_num, hB.trans ⟨rfl, rfl, rfl, Nat.le_refl _, fun _ _ => rfl⟩⟩
      case measure => simp [intOf]; omega
    · obtain rfl : k = n := by omega
      go_wp2
      go_ret
      exact ⟨rfl, hB⟩

/-- The marks that a law writes into numbers, the first one s. -/
def imarks (s : Int) (n : Nat) : List Int := (List.range n).map fun (i : Nat) => s + (i : Int)
theorem imarks_len (s : Int) (n : Nat) : (imarks s n).length = n := by simp [imarks]
theorem imarks_snoc (s : Int) (n : Nat) : imarks s (n + 1) = imarks s n ++ [s + (n : Int)] := by simp [imarks, List.range_succ]
theorem imarks_at (s : Int) (n k : Nat) (h : k < n) : (imarks s n).getD k 0 = s + (k : Int) := by simp [imarks, List.getD, h]
def imarked (s : Int) (zs : List Int) (k : Nat) : List Int := imarks s k ++ zs.drop k
theorem imarked_set (s : Int) (zs : List Int) (k : Nat) (h : k < zs.length) : (icells (imarked s zs k)).set k (.int .i64 (s + (k : Int))) = icells (imarked s zs (k + 1)) := by
  rw [icells_set]
  unfold imarked
  rw [Ch.set_mid _ _ _ _ (imarks_len s k) h, imarks_snoc]

set_option maxHeartbeats 800000 in
theorem markInts_some (s : Int) (B g n cp : Nat) (zs : List Int) (w : World) (hs0 : 0 < s) (hs1 : s ≤ 1099511627776) (hown : w.ownsRow B 2 1 (.slice (some ⟨g, 0, none⟩) n cp) n (icells zs)) (hn : n ≤ 4194304) :
    Calls Tryz.prog 23 #[.slice (some ⟨g, 0, none⟩) n cp, .int .i64 s] w fun e w' => e = .returned (.int .i64 (s + n)) ∧ w'.ownsRow B 2 1 (.slice (some ⟨g, 0, none⟩) n cp) n (icells (imarks s n)) ∧ w.grownBy w' (some g) := by
  have HL := (owns_cells hown).ilen
  go_enter Tryz.func23, Tryz.ntmps23
  go_wp2
  go_loopw [1, 5] (fun q i wr => ∃ k : Nat, k ≤ n ∧ i = .int .i64 k ∧ q = .int .i64 (s + (k : Int)) ∧ wr.ownsRow B 2 1 (.slice (some ⟨g, 0, none⟩) n cp) n (icells (imarked s zs k)) ∧ w.grownBy wr (some g)) (fun _ i _ => n - (intOf i).toNat)
  case atStart => exact ⟨0, Nat.zero_le _, rfl, by simp, by simpa [imarked, imarks] using hown, ⟨rfl, rfl, rfl, Nat.le_refl _, fun _ _ _ => rfl⟩⟩
  case round =>
    obtain ⟨k, hk, rfl, rfl, own, gr⟩ := hrel
    by_cases hlt : k < n
    · have hf0 := own.frozenAt k
      obtain ⟨u0, hd0⟩ := owns_some own (j := k) (by omega)
      have HS := hid (imarked_set s zs k (by have := HL.out; omega))
      go_wp2
      go_roundw
      case rel =>
        refine ⟨k + 1, by omega, by go_num, by go_num, ?_, ?_⟩
        · rw [← HS.out]; exact (own.stored _ _).1
        · exact gr_trans gr (own.stored _ _).2
      case measure => simp [intOf]; omega
    · obtain rfl : k = n := by omega
      go_wp2
      go_ret
      refine ⟨rfl, ?_, gr⟩
      have := HL.out
      simpa [imarked, this] using own

theorem markInts_nil (s : Int) (w : World) : Calls Tryz.prog 23 #[.slice none 0 0, .int .i64 s] w fun e w' => e = .returned (.int .i64 s) ∧ w' = w := by
  go_enter Tryz.func23, Tryz.ntmps23
  go_wp2
  go_loop [1, 5] (fun q i => i = .int .i64 0 ∧ q = .int .i64 s) (fun _ _ => 0)
  case atStart => exact ⟨rfl, rfl⟩
  case round =>
    obtain ⟨rfl, rfl⟩ := hrel
    go_wp2
    go_ret
    exact ⟨rfl, rfl⟩

theorem markInts_any (s : Int) (B n : Nat) (a : Option Addr) (cap : Nat) (zs : List Int) (w : World) (hs0 : 0 < s) (hs1 : s ≤ 1099511627776) (hown : w.ownsRow B 2 1 (.slice a n cap) n (icells zs)) (hn : n ≤ 4194304) :
    Calls Tryz.prog 23 #[.slice a n cap, .int .i64 s] w fun e w' => e = .returned (.int .i64 (s + n)) ∧ w'.ownsRow B 2 1 (.slice a n cap) n (icells (imarks s n)) ∧ w.grownBy w' (Value.slice a n cap).ownBlock := by
  rcases hown.2 with ⟨hv, h0⟩ | ⟨g, cp, cur, hv, _⟩
  · simp only [Value.slice.injEq] at hv
    obtain ⟨rfl, rfl, rfl⟩ := hv
    refine (markInts_nil s w).mono ?_
    rintro e w1 ⟨rfl, rfl⟩
    exact ⟨by simp, World.ownsRow_nil _ _ _ _, ⟨rfl, rfl, rfl, Nat.le_refl _, fun _ _ _ => rfl⟩⟩
  · simp only [Value.slice.injEq, true_and] at hv
    obtain ⟨rfl, rfl⟩ := hv
    exact markInts_some s B g n cap zs w hs0 hs1 hown hn

set_option maxHeartbeats 400000 in
theorem heldInts_any (s : Int) (a : Option Addr) (n cp : Nat) (w : World) (hs0 : 0 < s) (hs1 : s ≤ 1099511627776) (h : CellsAt w a (n * 1) (icells (imarks s n))) (hn : n ≤ 4194304) :
    Calls Tryz.prog 24 #[.slice a n cp, .int .i64 s] w fun e w' => e = .returned (.int .i64 (s + n)) ∧ w' = w := by
  go_enter Tryz.func24, Tryz.ntmps24
  go_wp2
  go_loop [1, 5] (fun q i => ∃ k : Nat, k ≤ n ∧ i = .int .i64 k ∧ q = .int .i64 (s + (k : Int))) (fun _ i => n - (intOf i).toNat)
  case atStart => exact ⟨0, Nat.zero_le _, rfl, by simp⟩
  case round =>
    obtain ⟨k, hk, rfl, rfl⟩ := hrel
    by_cases hlt : k < n
    · obtain ⟨b, off, rfl, hc0⟩ := h.int hlt
      rw [imarks_at s n k hlt] at hc0
      have hbl := lt_of_cell hc0
      have hss : (s + (k : Int) != s + (k : Int)) = false := by simp
      go_wp2
      go_round
      case rel => exact ⟨k + 1, by omega, by go_num, by go_num⟩
      case measure => simp [intOf]; omega
    · obtain rfl : k = n := by omega
      go_wp2
      go_ret
      exact ⟨rfl, rfl⟩

end Go.Proofs.YtoijjjckdggglaaGreat
