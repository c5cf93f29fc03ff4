/- Lists of strings in memory: cells, comparisons, marks. -/
import Derived.Test.YtalhmogaogaekaaDoorLkN
import Derived.Test.YtalhmogaogaekaaDoorHTk
import Derived.Test.YtalhmogaogaekaaDoorAppX
import Derived.Test.YtalhmogaogaekaaDoorWdM
import Derived.BigQuiet
namespace Go.Proofs.YtalhmogaogaekaaDoor
open Go.RowKit

def scells (ss : List ByteArray) : List Value := ss.map Value.string
theorem scells_len (ss : List ByteArray) : (scells ss).length = ss.length := by simp [scells]
theorem scells_append (a b : List ByteArray) : scells (a ++ b) = scells a ++ scells b := by simp [scells]
theorem scells_one' (ss : List ByteArray) : ∀ u ∈ scells ss, u.oneCell' = true := by
  intro x hx
  simp only [scells, List.mem_map] at hx
  obtain ⟨r, _, rfl⟩ := hx
  rfl
theorem Tryd.infoS : (Tryd.prog.info? 9).map (fun i => (i.zero, i.size, i.bytes)) = some (some (.string ⟨#[]⟩), 1, 16) := by kernel_rfl
theorem CellsAt.slen {w : World} {a : Option Addr} {n : Nat} {ss : List ByteArray} (h : CellsAt w a (n * 1) (scells ss)) : Hid (n = ss.length) := by
  have := h.1
  rw [scells_len] at this
  exact (by omega : n = ss.length)
theorem CellsAt.str {w : World} {a : Option Addr} {n : Nat} {ss : List ByteArray} (h : CellsAt w a (n * 1) (scells ss)) {k : Nat} (hk : k < n) :
    ∃ b off, a = some ⟨b, off, none⟩ ∧ w.cell? ⟨b, off + k, none⟩ = some (.string (ss.getD k ⟨#[]⟩)) := by
  obtain ⟨b, off, ha, hc⟩ := h.2 (by omega)
  have hl := h.slen.out
  refine ⟨b, off, ha, (hc k (by omega)).trans ?_⟩
  simp [scells, List.getD, show k < ss.length by omega]
theorem scells_set (ss : List ByteArray) (k : Nat) (v : ByteArray) : (scells ss).set k (.string v) = scells (ss.set k v) := by simp [scells, List.map_set]

set_option maxHeartbeats 400000 in
theorem eqStrs_same (a a' : Option Addr) (n cap cap' : Nat) (ss : List ByteArray) (w : World) (h : CellsAt w a (n * 1) (scells ss)) (h' : CellsAt w a' (n * 1) (scells ss)) (hn : n ≤ 4194304) :
    Calls Tryd.prog 27 #[.slice a n cap, .slice a' n cap'] w fun e w' => e = .returned (.bool true) ∧ Below w.heap.size w w' := by
  have hnn : ((n : Int) != n) = false := by simp
  go_enter Tryd.func27, Tryd.ntmps27
  go_wp2
  go_loopw [5] (fun i wr => ∃ k : Nat, k ≤ n ∧ i = .int .i64 k ∧ Below w.heap.size w wr) (fun i _ => n - (intOf i).toNat)
  case atStart => exact ⟨0, Nat.zero_le _, rfl, Below.refl _ _⟩
  case round =>
    obtain ⟨k, hk, rfl, hB⟩ := hrel
    by_cases hlt : k < n
    · obtain ⟨b, off, rfl, hc0⟩ := (h.below hB).str hlt
      obtain ⟨b', off', rfl, hd0⟩ := (h'.below hB).str hlt
      generalize ss.getD k ⟨#[]⟩ = r at *
      have hbl := lt_of_cell hc0
      have hbl' := lt_of_cell hd0
      go_wp2
      go_quiet (fail)
      go_wp2
      go_roundw
      case rel => exact ⟨k + 1, by omega, by go_num, hB.trans ⟨rfl, rfl, rfl, Nat.le_refl _, fun _ _ => rfl⟩⟩
      case measure => simp [intOf]; omega
    · obtain rfl : k = n := by omega
      go_wp2
      go_ret
      exact ⟨rfl, hB⟩

/-- The decimal digits of a number ahead of acc. -/
def mdig (k : Nat) (acc : ByteArray) : ByteArray := if k = 0 then acc else mdig (k / 10) (strOfNums [48 + (k % 10 : Nat)] ++ acc)
termination_by k
decreasing_by omega
def mtext (k : Nat) : ByteArray := ⟨#[109]⟩ ++ mdig k ⟨#[]⟩

set_option maxHeartbeats 800000 in
theorem markText_any (m : Nat) (w : World) (h0 : 0 < m) (h1 : m ≤ 1099511627776) :
    Calls Tryd.prog 40 #[.int .i64 m] w fun e w' => e = .returned (.string (mtext m)) ∧ Below w.heap.size w w' := by
  have hm : ¬ ((m : Int) ≤ 0) := by omega
  go_enter Tryd.func40, Tryd.ntmps40
  go_wp2
  go_loopw [0, 3] (fun q s wr => ∃ (k : Nat) (acc : ByteArray), k ≤ m ∧ q = .int .i64 k ∧ s = .string acc ∧ mdig k acc = mdig m ⟨#[]⟩ ∧ acc.size + k ≤ m ∧ Below w.heap.size w wr) (fun q _ _ => (intOf q).toNat)
  case atStart => exact ⟨m, ⟨#[]⟩, Nat.le_refl _, rfl, rfl, rfl, by simp [ByteArray.size], Below.refl _ _⟩
  case round =>
    obtain ⟨k, acc, hk, rfl, rfl, he, hsz, hB⟩ := hrel
    have HE := hid he
    clear he
    by_cases hlt : 0 < k
    · obtain ⟨d, HD⟩ : ∃ d : Nat, Hid (k % 10 = d) := ⟨_, rfl⟩
      obtain ⟨q, HQ⟩ : ∃ q : Nat, Hid (k / 10 = q) := ⟨_, rfl⟩
      have hd9 : d ≤ 9 := by have := HD.out; omega
      have hq : q < k := by have := HQ.out; omega
      have e1 : Int.tmod (k : Int) 10 = (d : Int) := by have := HD.out; rw [Int.tmod_eq_emod_of_nonneg (by omega)]; omega
      have e2 : Int.tdiv (k : Int) 10 = (q : Int) := by have := HQ.out; rw [Int.tdiv_eq_ediv_of_nonneg (by omega)]; omega
      have HS : Hid (mdig k acc = mdig q (strOfNums [48 + (d : Int)] ++ acc)) := by
        show _ = _
        rw [mdig, if_neg (by omega), HD.out, HQ.out]
      have cv : ∀ z : Int, (convert 58 9 (.slice (some ⟨wr.heap.size, 0, none⟩) 1 1)).run Tryd.prog (wr.alloc (.cells #[.int .u8 z] 5)) = .ok (.string (strOfNums [z])) (wr.alloc (.cells #[.int .u8 z] 5)) := fun z => by
        refine run_convert_bytes_arg _ 58 5 Tryd.underlying58 Tryd.underlying5 wr.heap.size 0 1 1 [z] rfl (fun i hi => ?_) 9 Tryd.underlying9
        obtain rfl : i = 0 := by omega
        simp [go_sem]
      clear HD HQ
      have hz1 : (strOfNums [48 + (d : Int)]).size = 1 := by rw [strOfNums_size]; rfl
      have hz : ¬ 9223372036854775807 < (strOfNums [48 + (d : Int)]).size + acc.size := by omega
      have hz2 : (strOfNums [48 + (d : Int)] ++ acc).size = 1 + acc.size := by rw [ByteArray.size_append, hz1]
      replace hz1 := hid hz1
      replace hz2 := hid hz2
      go_wp2
      go_roundw
      case rel => exact ⟨q, _, by omega, rfl, rfl, HS.out.symm.trans HE.out, by have := hz2.out; omega, hB.alloc hB.size _⟩
      case measure => simp [intOf]; omega
    · obtain rfl : k = 0 := by omega
      have hz : ¬ 9223372036854775807 < 1 + acc.size := by omega
      go_wp2
      go_ret
      refine ⟨?_, hB⟩
      have := HE.out
      unfold mtext
      rw [← this, mdig, if_pos rfl]
      rfl

/-- The marks that a law writes into strings, the first one s. -/
def smarks (s n : Nat) : List ByteArray := (List.range n).map fun (i : Nat) => mtext (s + i)
theorem smarks_len (s n : Nat) : (smarks s n).length = n := by simp [smarks]
theorem smarks_snoc (s n : Nat) : smarks s (n + 1) = smarks s n ++ [mtext (s + n)] := by simp [smarks, List.range_succ]
theorem smarks_at (s n k : Nat) (h : k < n) (d : ByteArray) : (smarks s n).getD k d = mtext (s + k) := by simp [smarks, List.getD, h]
def smarked (s : Nat) (zs : List ByteArray) (k : Nat) : List ByteArray := smarks s k ++ zs.drop k
theorem smarked_set (s : Nat) (zs : List ByteArray) (k : Nat) (h : k < zs.length) : (scells (smarked s zs k)).set k (.string (mtext (s + k))) = scells (smarked s zs (k + 1)) := by
  rw [scells_set]
  unfold smarked
  rw [Ch.set_mid _ _ _ _ (smarks_len s k) h, smarks_snoc]

set_option maxHeartbeats 800000 in
theorem markStrs_some (s : Nat) (B g n cp : Nat) (zs : List ByteArray) (w : World) (hs0 : 0 < s) (hs1 : s ≤ 4194304) (hown : w.ownsRow B 9 1 (.slice (some ⟨g, 0, none⟩) n cp) n (scells zs)) (hn : n ≤ 4194304) :
    Calls Tryd.prog 28 #[.slice (some ⟨g, 0, none⟩) n cp, .int .i64 s] w fun e w' => e = .returned (.int .i64 (s + n)) ∧ w'.ownsRow B 9 1 (.slice (some ⟨g, 0, none⟩) n cp) n (scells (smarks s n)) ∧ w.grownBy w' (some g) := by
  have HL := (owns_cells hown).slen
  go_enter Tryd.func28, Tryd.ntmps28
  go_wp2
  go_loopw [1, 5] (fun q i wr => ∃ k : Nat, k ≤ n ∧ i = .int .i64 k ∧ q = .int .i64 (s + (k : Int)) ∧ wr.ownsRow B 9 1 (.slice (some ⟨g, 0, none⟩) n cp) n (scells (smarked s zs k)) ∧ w.grownBy wr (some g)) (fun _ i _ => n - (intOf i).toNat)
  case atStart => exact ⟨0, Nat.zero_le _, rfl, by simp, by simpa [smarked, smarks] using hown, ⟨rfl, rfl, rfl, Nat.le_refl _, fun _ _ _ => rfl⟩⟩
  case round =>
    obtain ⟨k, hk, rfl, rfl, own, gr⟩ := hrel
    by_cases hlt : k < n
    · have HS := hid (smarked_set s zs k (by have := HL.out; omega))
      have MT := fun W => markText_any (s + k) W (by omega) (by omega)
      generalize mtext (s + k) = T at *
      rw [show (((s + k : Nat)) : Int) = (s : Int) + (k : Int) by omega] at MT
      go_wp2_with (go_at_call 40; refine (MT _).mono ?_; rintro e w1 ⟨rfl, b1⟩; have own := owns_below own b1; have hf0 := own.frozenAt k; obtain ⟨u0, hd0⟩ := owns_some own (j := k) (by omega))
      go_roundw
      case rel =>
        refine ⟨k + 1, by omega, by go_num, by go_num, ?_, ?_⟩
        · rw [← HS.out]; exact (own.stored _ _).1
        · exact gr_trans (gr_trans gr ⟨b1.os, b1.tape, b1.output, b1.size, fun g hg _ => b1.block g hg⟩) (own.stored _ _).2
      case measure => simp [intOf]; omega
    · obtain rfl : k = n := by omega
      go_wp2
      go_ret
      refine ⟨rfl, ?_, gr⟩
      have := HL.out
      simpa [smarked, this] using own

theorem markStrs_nil (s : Int) (w : World) : Calls Tryd.prog 28 #[.slice none 0 0, .int .i64 s] w fun e w' => e = .returned (.int .i64 s) ∧ w' = w := by
  go_enter Tryd.func28, Tryd.ntmps28
  go_wp2
  go_loop [1, 5] (fun q i => i = .int .i64 0 ∧ q = .int .i64 s) (fun _ _ => 0)
  case atStart => exact ⟨rfl, rfl⟩
  case round =>
    obtain ⟨rfl, rfl⟩ := hrel
    go_wp2
    go_ret
    exact ⟨rfl, rfl⟩

theorem markStrs_any (s : Nat) (B n : Nat) (a : Option Addr) (cap : Nat) (zs : List ByteArray) (w : World) (hs0 : 0 < s) (hs1 : s ≤ 4194304) (hown : w.ownsRow B 9 1 (.slice a n cap) n (scells zs)) (hn : n ≤ 4194304) :
    Calls Tryd.prog 28 #[.slice a n cap, .int .i64 s] w fun e w' => e = .returned (.int .i64 (s + n)) ∧ w'.ownsRow B 9 1 (.slice a n cap) n (scells (smarks s n)) ∧ w.grownBy w' (Value.slice a n cap).ownBlock := by
  rcases hown.2 with ⟨hv, h0⟩ | ⟨g, cp, cur, hv, _⟩
  · simp only [Value.slice.injEq] at hv
    obtain ⟨rfl, rfl, rfl⟩ := hv
    refine (markStrs_nil s w).mono ?_
    rintro e w1 ⟨rfl, rfl⟩
    exact ⟨by simp, World.ownsRow_nil _ _ _ _, ⟨rfl, rfl, rfl, Nat.le_refl _, fun _ _ _ => rfl⟩⟩
  · simp only [Value.slice.injEq, true_and] at hv
    obtain ⟨rfl, rfl⟩ := hv
    exact markStrs_some s B g n cap zs w hs0 hs1 hown hn
end Go.Proofs.YtalhmogaogaekaaDoor
