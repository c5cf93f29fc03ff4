
/- Lists of numbers: cells, comparisons, marks. -/
import Derived.Test.YtlpncikiaojmiaaSmall
import Derived.Test.YtlpncikiaojmiaaHd
namespace Go.Proofs.Ytlpncikiaojmiaa
open Go.RowKit

def icells (zs : List Int) : List Value := zs.map (Value.int .i64)
theorem icells_len (zs : List Int) : (icells zs).length = zs.length := by simp [icells]
theorem icells_append (a b : List Int) : icells (a ++ b) = icells a ++ icells b := by simp [icells]
theorem icells_one' (zs : List Int) : ∀ u ∈ icells zs, u.oneCell' = true := by
  intro x hx
  simp only [icells, List.mem_map] at hx
  obtain ⟨r, _, rfl⟩ := hx
  rfl
theorem Try.info2 : (Try.prog.info? 2).map (fun i => (i.zero, i.size, i.bytes)) = some (some (.int .i64 0), 1, 8) := by kernel_rfl
theorem CellsAt.ilen {w : World} {a : Option Addr} {n : Nat} {zs : List Int} (h : CellsAt w a (n * 1) (icells zs)) : Hid (n = zs.length) := by
  have := h.1
  rw [icells_len] at this
  exact (by omega : n = zs.length)
theorem CellsAt.int {w : World} {a : Option Addr} {n : Nat} {zs : List Int} (h : CellsAt w a (n * 1) (icells zs)) {k : Nat} (hk : k < n) :
    ∃ b off, a = some ⟨b, off, none⟩ ∧ w.cell? ⟨b, off + k, none⟩ = some (.int .i64 (zs.getD k 0)) := by
  obtain ⟨b, off, ha, hc⟩ := h.2 (by omega)
  have hl := h.ilen.out
  refine ⟨b, off, ha, (hc k (by omega)).trans ?_⟩
  simp [icells, List.getD, show k < zs.length by omega]
theorem icells_set (zs : List Int) (k : Nat) (v : Int) : (icells zs).set k (.int .i64 v) = icells (zs.set k v) := by simp [icells, List.map_set]

set_option maxHeartbeats 400000 in
theorem eqInts_same (a a' : Option Addr) (n cap cap' : Nat) (zs : List Int) (w : World) (h : CellsAt w a (n * 1) (icells zs)) (h' : CellsAt w a' (n * 1) (icells zs)) (hn : n ≤ 4194304) :
    Calls Try.prog 17 #[.slice a n cap, .slice a' n cap'] w fun e w' => e = .returned (.bool true) ∧ Below w.heap.size w w' := by
  have hnn : ((n : Int) != n) = false := by simp
  go_enter Try.func17, Try.ntmps17
  go_wp2
  go_loopw [5] (fun i wr => ∃ k : Nat, k ≤ n ∧ i = .int .i64 k ∧ Below w.heap.size w wr) (fun i _ => n - (intOf i).toNat)
  case atStart => exact ⟨0, Nat.zero_le _, rfl, Below.refl _ _⟩
  case round =>
    obtain ⟨k, hk, rfl, hB⟩ := hrel
    by_cases hlt : k < n
    · obtain ⟨b, off, rfl, hc0⟩ := (h.below hB).int hlt
      obtain ⟨b', off', rfl, hd0⟩ := (h'.below hB).int hlt
      generalize zs.getD k 0 = r at *
      have hbl := lt_of_cell hc0
      have hbl' := lt_of_cell hd0
      have hrr : (r != r) = false := by simp
      go_wp2
      go_quiet (fail)
      go_wp2
      go_roundw
      case rel => exact ⟨k + 1, by omega, by go_num, hB.trans ⟨rfl, rfl, rfl, Nat.le_refl _, fun _ _ => rfl⟩⟩
      case measure => simp [intOf]; omega
    · obtain rfl : k = n := by omega
      go_wp2
      go_ret
      exact ⟨rfl, hB⟩

/-- The marks that a law writes into numbers, the first one s. -/
def imarks (s : Int) (n : Nat) : List Int := (List.range n).map fun (i : Nat) => s + (i : Int)
theorem imarks_len (s : Int) (n : Nat) : (imarks s n).length = n := by simp [imarks]
theorem imarks_snoc (s : Int) (n : Nat) : imarks s (n + 1) = imarks s n ++ [s + (n : Int)] := by simp [imarks, List.range_succ]
theorem imarks_at (s : Int) (n k : Nat) (h : k < n) : (imarks s n).getD k 0 = s + (k : Int) := by simp [imarks, List.getD, h]
def imarked (s : Int) (zs : List Int) (k : Nat) : List Int := imarks s k ++ zs.drop k
theorem imarked_set (s : Int) (zs : List Int) (k : Nat) (h : k < zs.length) : (icells (imarked s zs k)).set k (.int .i64 (s + (k : Int))) = icells (imarked s zs (k + 1)) := by
  rw [icells_set]
  unfold imarked
  rw [Ch.set_mid _ _ _ _ (imarks_len s k) h, imarks_snoc]

set_option maxHeartbeats 800000 in
theorem markInts_some (s : Int) (B g n cp : Nat) (zs : List Int) (w : World) (hs0 : 0 < s) (hs1 : s ≤ 1099511627776) (hown : w.ownsRow B 2 1 (.slice (some ⟨g, 0, none⟩) n cp) n (icells zs)) (hn : n ≤ 4194304) :
    Calls Try.prog 20 #[.slice (some ⟨g, 0, none⟩) n cp, .int .i64 s] w fun e w' => e = .returned (.int .i64 (s + n)) ∧ w'.ownsRow B 2 1 (.slice (some ⟨g, 0, none⟩) n cp) n (icells (imarks s n)) ∧ w.grownBy w' (some g) := by
  have HL := (owns_cells hown).ilen
  go_enter Try.func20, Try.ntmps20
  go_wp2
  go_loopw [1, 5] (fun q i wr => ∃ k : Nat, k ≤ n ∧ i = .int .i64 k ∧ q = .int .i64 (s + (k : Int)) ∧ wr.ownsRow B 2 1 (.slice (some ⟨g, 0, none⟩) n cp) n (icells (imarked s zs k)) ∧ w.grownBy wr (some g)) (fun _ i _ => n - (intOf i).toNat)
  case atStart => exact ⟨0, Nat.zero_le _, rfl, by simp, by simpa [imarked, imarks] using hown, ⟨rfl, rfl, rfl, Nat.le_refl _, fun _ _ _ => rfl⟩⟩
  case round =>
    obtain ⟨k, hk, rfl, rfl, own, gr⟩ := hrel
    by_cases hlt : k < n
    · have hf0 := own.frozenAt k
      obtain ⟨u0, hd0⟩ := owns_some own (j := k) (by omega)
      have HS := hid (imarked_set s zs k (by have := HL.out; omega))
      go_wp2
      go_roundw
      case rel =>
        refine ⟨k + 1, by omega, by go_num, by go_num, ?_, ?_⟩
        · rw [← HS.out]; exact (own.stored _ _).1
        · exact gr_trans gr (own.stored _ _).2
      case measure => simp [intOf]; omega
    · obtain rfl : k = n := by omega
      go_wp2
      go_ret
      refine ⟨rfl, ?_, gr⟩
      have := HL.out
      simpa [imarked, this] using own

theorem markInts_nil (s : Int) (w : World) : Calls Try.prog 20 #[.slice none 0 0, .int .i64 s] w fun e w' => e = .returned (.int .i64 s) ∧ w' = w := by
  go_enter Try.func20, Try.ntmps20
  go_wp2
  go_loop [1, 5] (fun q i => i = .int .i64 0 ∧ q = .int .i64 s) (fun _ _ => 0)
  case atStart => exact ⟨rfl, rfl⟩
  case round =>
    obtain ⟨rfl, rfl⟩ := hrel
    go_wp2
    go_ret
    exact ⟨rfl, rfl⟩

theorem markInts_any (s : Int) (B n : Nat) (a : Option Addr) (cap : Nat) (zs : List Int) (w : World) (hs0 : 0 < s) (hs1 : s ≤ 1099511627776) (hown : w.ownsRow B 2 1 (.slice a n cap) n (icells zs)) (hn : n ≤ 4194304) :
    Calls Try.prog 20 #[.slice a n cap, .int .i64 s] w fun e w' => e = .returned (.int .i64 (s + n)) ∧ w'.ownsRow B 2 1 (.slice a n cap) n (icells (imarks s n)) ∧ w.grownBy w' (Value.slice a n cap).ownBlock := by
  rcases hown.2 with ⟨hv, h0⟩ | ⟨g, cp, cur, hv, _⟩
  · simp only [Value.slice.injEq] at hv
    obtain ⟨rfl, rfl, rfl⟩ := hv
    refine (markInts_nil s w).mono ?_
    rintro e w1 ⟨rfl, rfl⟩
    exact ⟨by simp, World.ownsRow_nil _ _ _ _, ⟨rfl, rfl, rfl, Nat.le_refl _, fun _ _ _ => rfl⟩⟩
  · simp only [Value.slice.injEq, true_and] at hv
    obtain ⟨rfl, rfl⟩ := hv
    exact markInts_some s B g n cap zs w hs0 hs1 hown hn

set_option maxHeartbeats 400000 in
theorem heldInts_any (s : Int) (a : Option Addr) (n cp : Nat) (w : World) (hs0 : 0 < s) (hs1 : s ≤ 1099511627776) (h : CellsAt w a (n * 1) (icells (imarks s n))) (hn : n ≤ 4194304) :
    Calls Try.prog 64 #[.slice a n cp, .int .i64 s] w fun e w' => e = .returned (.int .i64 (s + n)) ∧ w' = w := by
  go_enter Try.func64, Try.ntmps64
  go_wp2
  go_loop [1, 5] (fun q i => ∃ k : Nat, k ≤ n ∧ i = .int .i64 k ∧ q = .int .i64 (s + (k : Int))) (fun _ i => n - (intOf i).toNat)
  case atStart => exact ⟨0, Nat.zero_le _, rfl, by simp⟩
  case round =>
    obtain ⟨k, hk, rfl, rfl⟩ := hrel
    by_cases hlt : k < n
    · obtain ⟨b, off, rfl, hc0⟩ := h.int hlt
      rw [imarks_at s n k hlt] at hc0
      have hbl := lt_of_cell hc0
      have hss : (s + (k : Int) != s + (k : Int)) = false := by simp
      go_wp2
      go_round
      case rel => exact ⟨k + 1, by omega, by go_num, by go_num⟩
      case measure => simp [intOf]; omega
    · obtain rfl : k = n := by omega
      go_wp2
      go_ret
      exact ⟨rfl, rfl⟩

set_option maxHeartbeats 400000 in
theorem eqIntsResult_same (c : Int) (a a' : Option Addr) (n cap cap' : Nat) (rs : List Int) (w : World) (h : CellsAt w a (n * 1) (icells rs)) (h' : CellsAt w a' (n * 1) (icells rs)) (hn : n ≤ 4194304) :
    Calls Try.prog 30 #[.agg #[.int .i64 c, .slice a n cap], .agg #[.int .i64 c, .slice a' n cap']] w fun e w' => e = .returned (.bool true) ∧ Below w.heap.size w w' := by
  have hcc : (c != c) = false := by simp
  have b0 : Below w.heap.size w ((w.alloc (.cells #[.int .i64 c, .slice a n cap] 53)).alloc (.cells #[.int .i64 c, .slice a' n cap'] 53)) := ((Below.refl _ _).alloc (Nat.le_refl _) _).alloc (by simp) _
  go_enter Try.func30, Try.ntmps30
  go_wp2_with fail
  refine (eqInts_same a a' n cap cap' rs _ (h.below b0) (h'.below b0) hn).mono ?_
  rintro e w1 ⟨rfl, b1⟩
  go_wp2
  go_ret
  exact ⟨rfl, b0.trans (b1.mono (by simp; omega))⟩

set_option maxHeartbeats 400000 in
theorem markIntsResult_any (c : Int) (B : Nat) (a : Option Addr) (n cap : Nat) (rs : List Int) (w : World) (hown : w.ownsRow B 2 1 (.slice a n cap) n (icells rs)) (hn : n ≤ 4194304) :
    Calls Try.prog 31 #[.agg #[.int .i64 c, .slice a n cap], .int .i64 1] w fun e w' => e = .returned (.int .i64 (1 + n)) ∧ w'.ownsRow B 2 1 (.slice a n cap) n (icells (imarks 1 n)) ∧ w.grownBy w' (Value.slice a n cap).ownBlock := by
  go_enter Try.func31, Try.ntmps31
  go_wp2_with fail
  refine (markInts_any 1 B n a cap rs _ (by decide) (by decide) (hown.alloc _) hn).mono ?_
  rintro e w1 ⟨rfl, own1, gr1⟩
  go_wp2
  go_ret
  exact ⟨rfl, own1, gr_alloc gr1⟩

set_option maxHeartbeats 400000 in
theorem heldIntsResult_any (c : Int) (a : Option Addr) (n cap : Nat) (w : World) (h : CellsAt w a (n * 1) (icells (imarks 1 n))) (hn : n ≤ 4194304) :
    Calls Try.prog 32 #[.agg #[.int .i64 c, .slice a n cap], .int .i64 1] w fun e w' => e = .returned (.int .i64 (1 + n)) ∧ Below w.heap.size w w' := by
  go_enter Try.func32, Try.ntmps32
  go_wp2_with fail
  refine (heldInts_any 1 a n cap _ (by decide) (by decide) (h.below ((Below.refl _ _).alloc (Nat.le_refl _) _)) hn).mono ?_
  rintro e w1 ⟨rfl, rfl⟩
  go_wp2
  go_ret
  exact ⟨rfl, (Below.refl _ _).alloc (Nat.le_refl _) _⟩
end Go.Proofs.Ytlpncikiaojmiaa
