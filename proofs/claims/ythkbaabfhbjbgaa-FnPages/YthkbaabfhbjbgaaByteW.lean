/- Walks of the functions on bytes: the sum (of the program and of the model), the copy, the comparison. -/
import Derived.Test.YthkbaabfhbjbgaaProg
import Derived.Test.YthkbaabfhbjbgaaMath
import Derived.Test.YthkbaabfhbjbgaaBase
import Derived.Deep.QuietTactic
import Derived.BigQuiet
namespace Go.Proofs.Ythkbaabfhbjbgaa
open Go.RowKit

theorem Try.info5 : (Try.prog.info? 5).map (fun i => (i.zero, i.size, i.bytes)) = some (some (.int .u8 0), 1, 1) := by kernel_rfl

theorem ret_int {k : IntKind} {a b : Int} (h : a = b) : Ending.returned (.int k a) = .returned (.int k b) := by rw [h]

set_option maxHeartbeats 400000 in
theorem specSum_any (a : Option Addr) (n cap : Nat) (zs : List Int) (w : World) (h : CellsAt w a n (bts zs)) (hb : IsB zs) (hn : n ≤ 1099511627776) :
    Calls Try.prog 20 #[.slice a n cap] w fun e w' => e = .returned (.int .i64 (Ch.sumB zs)) ∧ w' = w := by
  have HL := h.len
  go_enter Try.func20, Try.ntmps20
  go_wp2
  go_loop [3, 4] (fun s i => ∃ k : Nat, k ≤ n ∧ i = .int .i64 k ∧ s = .int .i64 (Ch.sumB (zs.take k))) (fun _ i => n - (intOf i).toNat)
  case atStart => exact ⟨0, Nat.zero_le _, rfl, rfl⟩
  case round =>
    obtain ⟨k, hk, rfl, rfl⟩ := hrel
    obtain ⟨s0, s1⟩ := Ch.sumB_bd (zs.take k)
    by_cases hlt : k < n
    · obtain ⟨b, off, rfl, hc⟩ := h.at hlt
      obtain ⟨z0, z1⟩ := hb k
      have HS : Hid (Ch.sumB (zs.take (k + 1)) = Ch.sumStep (Ch.sumB (zs.take k)) (zs.getD k 0)) := Ch.sumB_snoc zs k (by have := HL.out; omega)
      generalize zs.getD k 0 = z at *
      generalize Ch.sumB (zs.take k) = s at *
      go_wp2
      go_round
      case rel => exact ⟨k + 1, by omega, by go_num, by rw [HS.out]; rfl⟩
      case measure => simp [intOf]; omega
    · go_wp2
      go_ret
      exact ⟨ret_int (by rw [List.take_of_length_le (by have := HL.out; omega)]), rfl⟩

set_option maxHeartbeats 400000 in
theorem implSum_any (a : Option Addr) (n cap : Nat) (zs : List Int) (w : World) (h : CellsAt w a n (bts zs)) (hb : IsB zs) (hn : n ≤ 1099511627776) :
    Calls Try.prog 19 #[.slice a n cap] w fun e w' => e = .returned (.int .i64 (Ch.sumB zs)) ∧ w' = w := by
  have HL := h.len
  go_enter Try.func19, Try.ntmps19
  go_wp2
  go_loop [3, 8] (fun s i => ∃ k : Nat, k ≤ n ∧ i = .int .i64 k ∧ s = .int .i64 (Ch.sumB (zs.take k))) (fun _ i => n - (intOf i).toNat)
  case atStart => exact ⟨0, Nat.zero_le _, rfl, rfl⟩
  case round =>
    obtain ⟨k, hk, rfl, rfl⟩ := hrel
    obtain ⟨s0, s1⟩ := Ch.sumB_bd (zs.take k)
    by_cases hlt : k < n
    · obtain ⟨b, off, rfl, hc⟩ := h.at hlt
      obtain ⟨z0, z1⟩ := hb k
      have HS : Hid (Ch.sumB (zs.take (k + 1)) = Ch.sumStep (Ch.sumB (zs.take k)) (zs.getD k 0)) := Ch.sumB_snoc zs k (by have := HL.out; omega)
      generalize zs.getD k 0 = z at *
      generalize Ch.sumB (zs.take k) = s at *
      go_wp2
      go_round
      case rel => exact ⟨k + 1, by omega, by go_num, by rw [HS.out]; rfl⟩
      case measure => simp [intOf]; omega
    · go_wp2
      go_ret
      exact ⟨ret_int (by rw [List.take_of_length_le (by have := HL.out; omega)]), rfl⟩

/-- What the copy holds behind k rounds. -/
def copied (zs : List Int) (n k : Nat) : List Value := bts (zs.take k) ++ List.replicate (n - k) (Value.int .u8 0)
theorem copied_zero (zs : List Int) (n : Nat) : (madeCells (Value.int .u8 0).cells (n * 1)).toList = copied zs n 0 := by
  have := toList_madeCells_one (.int .u8 0) (n * 1)
  simpa [copied, bts, Value.cells] using this
theorem copied_end {zs : List Int} {n : Nat} (h : n = zs.length) : copied zs n n = bts zs := by
  subst h; simp [copied]
theorem copied_set {zs : List Int} {n k : Nat} (h : n = zs.length) (hk : k < n) : (copied zs n k).set k (.int .u8 (zs.getD k 0)) = copied zs n (k + 1) := by
  subst h
  unfold copied bts
  rw [Ch.take_snoc zs 0 k hk, List.set_append_right _ _ (by simp; omega)]
  simp
  have : zs.length - k = zs.length - (k + 1) + 1 := by omega
  rw [this, List.replicate_succ]
  simp [Nat.min_eq_left (Nat.le_of_lt hk)]

set_option maxHeartbeats 400000 in
theorem toByteS_any (a : Option Addr) (n cap : Nat) (zs : List Int) (w : World) (h : CellsAt w a n (bts zs)) (hn : n ≤ 1099511627776) :
    Calls Try.prog 31 #[.slice a n cap] w fun e w' => e = .returned (.slice (some ⟨w.heap.size, 0, none⟩) n n) ∧
      w'.ownsRow w.heap.size 5 1 (.slice (some ⟨w.heap.size, 0, none⟩) n n) n (bts zs) ∧ Below w.heap.size w w' := by
  have HL := h.len
  obtain ⟨i0, hi, hz0, hz1, hz2⟩ := info_parts Try.info5
  go_enter Try.func31, Try.ntmps31
  go_wp2_with (at_make; refine wpList_make_full _ rfl _ _ 22 rfl w.heap.size 5 i0 (.int .u8 0) 1 Try.underlying22 hi hz0 hz1 .i64 .i64 _ _ n rfl rfl rfl rfl (by rw [hz2]; omega) (by unfold maxLen; omega) (Nat.le_refl _) ?_; intro w0 hown0 hgrow0)
  have hB0 : Below w.heap.size w w0 := (Below.refl _ _).grown hgrow0 (Nat.le_refl _) (by simp)
  go_loopw [4] (fun i wr => ∃ k : Nat, k ≤ n ∧ i = .int .i64 k ∧ wr.ownsRow w.heap.size 5 1 (.slice (some ⟨w.heap.size, 0, none⟩) n n) n (copied zs n k) ∧ Below w.heap.size w wr) (fun i _ => n - (intOf i).toNat)
  case atStart => exact ⟨0, Nat.zero_le _, rfl, by rw [← copied_zero]; exact hown0, hB0⟩
  case round =>
    obtain ⟨k, hk, rfl, hown, hB⟩ := hrel
    by_cases hlt : k < n
    · obtain ⟨b, off, rfl, hc⟩ := (h.below hB).at hlt
      have hfz := hown.frozenAt k
      have hS := hown.stored k (.int .u8 (zs.getD k 0))
      rw [copied_set HL.out hlt] at hS
      obtain ⟨u0, hcl⟩ := owns_some hown (j := k) (by omega)
      generalize zs.getD k 0 = z at *
      go_wp2
      go_roundw
      case rel => exact ⟨k + 1, by omega, by go_num, hS.1, hB.grown hS.2 (by have := hB.size; omega) (by simp)⟩
      case measure => simp [intOf]; omega
    · obtain rfl : k = n := by omega
      go_wp2
      go_ret
      exact ⟨rfl, by rw [copied_end HL.out] at hown; exact hown, hB⟩
set_option maxHeartbeats 400000 in
theorem eqByteS_same (a a' : Option Addr) (n cap cap' : Nat) (zs : List Int) (w : World) (h : CellsAt w a n (bts zs)) (h' : CellsAt w a' n (bts zs)) (hn : n ≤ 1099511627776) :
    Calls Try.prog 33 #[.slice a n cap, .slice a' n cap'] w fun e w' => e = .returned (.bool true) ∧ Below w.heap.size w w' := by
  have HL := h.len
  have hnn : ((n : Int) != n) = false := by simp
  go_enter Try.func33, Try.ntmps33
  go_wp2
  go_loopw [5] (fun i wr => ∃ k : Nat, k ≤ n ∧ i = .int .i64 k ∧ Below w.heap.size w wr) (fun i _ => n - (intOf i).toNat)
  case atStart => exact ⟨0, Nat.zero_le _, rfl, Below.refl _ _⟩
  case round =>
    obtain ⟨k, hk, rfl, hB⟩ := hrel
    by_cases hlt : k < n
    · obtain ⟨b, off, rfl, hc⟩ := (h.below hB).at hlt
      obtain ⟨b', off', rfl, hc'⟩ := (h'.below hB).at hlt
      generalize zs.getD k 0 = z at *
      have hzz : (z != z) = false := by simp
      go_wp2
      go_quiet (fail)
      go_wp2
      go_roundw
      case rel => exact ⟨k + 1, by omega, by go_num, below_drewN hB _⟩
      case measure => simp [intOf]; omega
    · obtain rfl : k = n := by omega
      go_wp2
      go_ret
      exact ⟨rfl, hB⟩
set_option maxHeartbeats 400000 in
theorem lawSum_any (a : Option Addr) (n cap : Nat) (zs : List Int) (w : World) (h : CellsAt w a n (bts zs)) (hb : IsB zs) :
    Calls Try.prog 8 #[.slice a n cap] w fun e w' => e = .returned (.bool true) ∧ Below w.heap.size w w' := by
  by_cases hbig : 1048576 < n
  · go_enter Try.func8, Try.ntmps8
    go_wp2
    go_ret
    exact ⟨rfl, Below.refl _ _⟩
  · have hsm : n ≤ 1048576 := by omega
    clear hbig
    go_enter Try.func8, Try.ntmps8
    go_wp2_with fail
    refine (toByteS_any a n cap zs _ h (by omega)).mono ?_
    rintro e w1 ⟨rfl, o1, b1⟩
    go_wp2_with fail
    refine (specSum_any _ n n zs _ (by simpa using owns_cells o1) hb (by omega)).mono ?_
    rintro e w2 ⟨rfl, rfl⟩
    go_wp2_with fail
    refine (toByteS_any a n cap zs _ (h.below b1) (by omega)).mono ?_
    rintro e w3 ⟨rfl, o3, b3⟩
    have b3' := b1.trans (b3.mono b1.size)
    go_wp2_with fail
    refine (implSum_any _ n n zs _ (by simpa using owns_cells o3) hb (by omega)).mono ?_
    rintro e w4 ⟨rfl, rfl⟩
    go_wp2_with fail
    refine (toByteS_any a n cap zs _ (h.below b3') (by omega)).mono ?_
    rintro e w5 ⟨rfl, o5, b5⟩
    have b5' := b3'.trans (b5.mono b3'.size)
    have o3' := owns_below o3 b5
    go_wp2_with fail
    refine (eqByteS_same _ _ n n n zs _ (by simpa using owns_cells o3') (by simpa using owns_cells o5) (by omega)).mono ?_
    rintro e w6 ⟨rfl, b6⟩
    go_wp2
    go_ret
    exact ⟨rfl, b5'.trans (b6.mono b5'.size)⟩
end Go.Proofs.Ythkbaabfhbjbgaa
