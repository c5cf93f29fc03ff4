/- Several texts in one: RdA, RdB, NwB, RdC, RdD, LvL, MarkL, CopyW, DelW, InsW, InsG, PlaceW, ForI. -/
import Derived.Test.YtoijjjckdggglaaGreatRdM
import Derived.Test.YtoijjjckdggglaaGreatRvC
import Derived.Lib.SliceRun
import Derived.Test.YtoijjjckdggglaaGreatNwM
import Derived.Laws.StructEq
import Derived.Test.YtoijjjckdggglaaGreatScanW
import Derived.Test.YtoijjjckdggglaaGreatLvF
import Derived.Deep.RegionLaw
import Derived.Laws.IdiomCopy
import Derived.Lib.AppendZerosOnto
import Derived.Lib.Overlaps
import Derived.Laws.Externs
import Derived.Laws.NewBlocks
import Derived.Test.YtoijjjckdggglaaGreatAllI
import Derived.Test.YtoijjjckdggglaaGreatPlaceM
import Derived.Maps.OwnSet
import Derived.Maps.OwnOps
import Derived.Test.YtoijjjckdggglaaGreatForW


/- What each key has, in memory: an array of a hundred slots; set of the program. -/
namespace Go.Proofs.YtoijjjckdggglaaGreat
open Go.RowKit

def slcells (S : Ch.Sl) : List Value := (List.range 100).flatMap (fun i : Nat => [.bool (S i).isSome, .int .i64 ((S i).getD 0)])
def slA (S : Ch.Sl) : Array Value := (slcells S).toArray
theorem pairs_len (f : Nat → List Value) (hf : ∀ i, (f i).length = 2) : ∀ m, ((List.range m).flatMap f).length = 2 * m := by
  intro m
  induction m with
  | zero => rfl
  | succ m ih => rw [List.range_succ, List.flatMap_append, List.length_append, ih]; simp [hf]; omega
theorem pairs_at (f : Nat → List Value) (hf : ∀ i, (f i).length = 2) : ∀ m i j, i < m → j < 2 → ((List.range m).flatMap f)[2 * i + j]? = (f i)[j]? := by
  intro m
  induction m with
  | zero => intro i j h; omega
  | succ m ih =>
    intro i j hi hj
    rw [List.range_succ, List.flatMap_append]
    have hl := pairs_len f hf m
    by_cases e : i < m
    · rw [List.getElem?_append_left (by rw [hl]; omega), ih i j e hj]
    · obtain rfl : i = m := by omega
      rw [List.getElem?_append_right (by rw [hl]; omega), hl]
      simp [show 2 * i + j - 2 * i = j by omega]
theorem slcells_len (S : Ch.Sl) : (slcells S).length = 200 := pairs_len _ (fun _ => rfl) 100
theorem slcells_at (S : Ch.Sl) {i j : Nat} (hi : i < 100) (hj : j < 2) : (slcells S)[2 * i + j]? = [Value.bool (S i).isSome, .int .i64 ((S i).getD 0)][j]? := pairs_at _ (fun _ => rfl) 100 i j hi hj
theorem slcells_set (S : Ch.Sl) {k : Nat} (hk : k < 100) (o : Option Int) : ((slcells S).set (2 * k) (.bool o.isSome)).set (2 * k + 1) (.int .i64 (o.getD 0)) = slcells (S.set k o) := by
  apply List.ext_getElem?
  intro q
  by_cases hq : q < 200
  · have hi : q / 2 < 100 := by omega
    have hj : q % 2 < 2 := by omega
    have e : q = 2 * (q / 2) + q % 2 := by omega
    have h1 := slcells_at S hi hj
    have h2 := slcells_at (S.set k o) hi hj
    rw [← e] at h1 h2
    rw [h2, List.getElem?_set, List.getElem?_set, List.length_set, slcells_len]
    have hm : q % 2 = 0 ∨ q % 2 = 1 := by omega
    by_cases hqk : q / 2 = k
    · rcases hm with hm | hm
      · rw [if_neg (by omega), if_pos (by omega), if_pos (by omega), hm, hqk]
        simp [Ch.Sl.set]
      · rw [if_pos (by omega), if_pos (by omega), hm, hqk]
        simp [Ch.Sl.set]
    · rw [if_neg (by omega), if_neg (by omega), h1]
      have : (S.set k o) ((q / 2 : Nat) : Int) = S ((q / 2 : Nat) : Int) := by simp only [Ch.Sl.set]; rw [if_neg (by omega)]
      rw [this]
  · rw [List.getElem?_eq_none (by simp [slcells_len]; omega), List.getElem?_eq_none (by rw [slcells_len]; omega)]

/-- The slots in memory. -/
def Slt (w : World) (b : Nat) (S : Ch.Sl) : Prop := w.heap[b]? = some (.cells (slA S) 88 (0, 0))
theorem Slt.lt {w : World} {b : Nat} {S : Ch.Sl} (h : Slt w b S) : b < w.heap.size := (Array.getElem?_eq_some_iff.1 h).1
theorem Slt.cell {w : World} {b : Nat} {S : Ch.Sl} (h : Slt w b S) {i : Nat} (hi : i < 100) : w.cell? ⟨b, 2 * i, none⟩ = some (.bool (S i).isSome) ∧ w.cell? ⟨b, 2 * i + 1, none⟩ = some (.int .i64 ((S i).getD 0)) := by
  have h0 := slcells_at S hi (by omega : 0 < 2)
  have h1 := slcells_at S hi (by omega : 1 < 2)
  have key : ∀ j, w.cell? ⟨b, j, none⟩ = (slcells S)[j]? := fun j => by
    unfold World.cell?
    unfold Slt at h
    simp only [h]
    simp [slA]
  rw [key, key]
  exact ⟨h0, h1⟩
theorem Slt.frozen {w : World} {b : Nat} {S : Ch.Sl} (h : Slt w b S) (i : Nat) : w.frozen? ⟨b, i, none⟩ = false := by
  unfold Slt at h
  simp [World.frozen?, h]
theorem Slt.put {w : World} {b : Nat} {S : Ch.Sl} (h : Slt w b S) {k : Nat} (hk : k < 100) (o : Option Int) : Slt ((w.setCell ⟨b, 2 * k, none⟩ (.bool o.isSome)).setCell ⟨b, 2 * k + 1, none⟩ (.int .i64 (o.getD 0))) b (S.set k o) := by
  have h1 := Joins.block_setCell (i := 2 * k) h (.bool o.isSome)
  have h2 := Joins.block_setCell (i := 2 * k + 1) h1 (.int .i64 (o.getD 0))
  unfold Slt
  rw [h2]
  congr 2
  rw [slA, slA, ← slcells_set S hk o]
  simp
theorem Slt.keep {w w' : World} {b : Nat} {S : Ch.Sl} (h : Slt w b S) {row : Option Nat} (hg : w.grownBy w' row) (hne : row ≠ some b) : Slt w' b S := block_grownV hg h hne
theorem Slt.below {w w' : World} {b : Nat} {S : Ch.Sl} (h : Slt w b S) (hb : Below w.heap.size w w') : Slt w' b S := block_belowV hb h
theorem Slt.alloc {w : World} {b : Nat} {S : Ch.Sl} (h : Slt w b S) (o : Obj) : Slt (w.alloc o) b S := h.below ((Below.refl _ _).alloc (Nat.le_refl _) _)
end Go.Proofs.YtoijjjckdggglaaGreat


/- set of the program: a slot is cleared, then filled. -/
namespace Go.Proofs.YtoijjjckdggglaaGreat
open Go.RowKit

theorem setCells_two (w : World) (b o : Nat) (x y : Value) : w.setCells b o [x, y] = (w.setCell ⟨b, o, none⟩ x).setCell ⟨b, o + 1, none⟩ y := rfl
theorem Slt.set2 {w : World} {b : Nat} {S : Ch.Sl} (h : Slt w b S) {k : Nat} (hk : k < 100) (o : Option Int) : Slt ((w.setCell ⟨b, k * 2, none⟩ (.bool o.isSome)).setCell ⟨b, k * 2 + 1, none⟩ (.int .i64 (o.getD 0))) b (S.set k o) := by
  have := h.put hk o
  rw [Nat.mul_comm] at this
  exact this
theorem Slt.cell2 {w : World} {b : Nat} {S : Ch.Sl} (h : Slt w b S) {i : Nat} (hi : i < 100) : w.cell? ⟨b, i * 2, none⟩ = some (.bool (S i).isSome) ∧ w.cell? ⟨b, i * 2 + 1, none⟩ = some (.int .i64 ((S i).getD 0)) := by
  rw [Nat.mul_comm]
  exact h.cell hi
theorem Ch.Sl.set_set (S : Ch.Sl) (k : Int) (o p : Option Int) : (S.set k o).set k p = S.set k p := by
  funext q
  simp only [Ch.Sl.set]
  split <;> rfl
theorem gr_setW {w : World} {s o : Nat} {v : Value} : w.grownBy (w.setCell ⟨s, o, none⟩ v) (some s) := ⟨rfl, rfl, rfl, by simp [World.setCell], fun k _ hne => Below.heap_setCell _ _ _ _ (by intro e; exact hne (by rw [e]))⟩
theorem gr_two {a b c : World} {row : Option Nat} (h : a.grownBy b row) (k : b.grownBy c row) : a.grownBy c row :=
  ⟨k.os.trans h.os, k.tape.trans h.tape, k.output.trans h.output, Nat.le_trans h.size k.size, fun i hi hne => (k.block i (Nat.lt_of_lt_of_le hi h.size) hne).trans (h.block i hi hne)⟩

theorem clearSlot (w : World) (ty b o c : Nat) (hc : ∀ j, j < 2 → (w.cell? ⟨b, o + j, none⟩).isSome = true) (hf : ∀ j, j < 2 → w.frozen? ⟨b, o + j, none⟩ = false) :
    (Builtin.clear_ #[108] ty #[.slice (some ⟨b, o, none⟩) 1 c]).run Tryz.prog w = .ok (.tuple #[]) (w.setCells b o [.bool false, .int .i64 0]) := by
  have hv : ∀ W, (zeroValue 86).run Tryz.prog W = .ok (.agg #[.bool false, .int .i64 0]) W := fun _ => by kernel_rfl
  have hzc : (Builtin.zeroCells (Value.cells (.agg #[.bool false, .int .i64 0])) 1).toList = [.bool false, .int .i64 0] := by kernel_rfl
  have hst := run_storeCells_cells (P := Tryz.prog) b o [.bool false, .int .i64 0] 0 w (by simpa using hc) (by simpa using hf) (by decide)
  simp only [Nat.add_zero] at hst
  simp [Builtin.clear_, run_underlying Tryz.underlying108, hv, hzc, hst]
theorem sliceSlot (b k : Nat) (hk : k < 100) (w : World) :
    (Instr.sliceAt 88 (.pointer (some ⟨b, 0, none⟩)) (some (.int .i64 (k : Int))) (some (.int .i64 ((k : Int) + 1))) none).run Tryz.prog w = .ok (.slice (some ⟨b, k * 2, none⟩) 1 (100 - k)) w := by
  have ha : Tryz.prog.underlying 88 = some (.array (Tryz.prog.arrayLen 88) (Tryz.prog.elem 88)) := by kernel_rfl
  have hl : Tryz.prog.arrayLen 88 = 100 := by kernel_rfl
  have he : Tryz.prog.elem 88 = 86 := by kernel_rfl
  have hs := Tryz.sizeOf86
  rw [← he] at hs
  rw [run_sliceAt_array_lh (ht := ha) (h0 := by omega) (h1 := by omega) (h2 := by rw [hl]; omega), hs]
  have e1 : (k : Int).toNat = k := by omega
  have e2 : ((k : Int) + 1).toNat = k + 1 := by omega
  rw [hl, e1, e2]
  unfold Result.andThen slicedAt
  dsimp only
  rw [if_neg (by omega), addr_add, Nat.zero_add, show k + 1 - k = 1 by omega]

set_option maxHeartbeats 2000000 in
theorem set_any (b : Nat) (ky : Int) (hs : Bool) (nw : Int) (S : Ch.Sl) (w : World) (h : Slt w b S) (hk : 0 ≤ ky ∧ ky ≤ 99) :
    Calls Tryz.prog 52 #[.pointer (some ⟨b, 0, none⟩), .int .i64 ky, .bool hs, .int .i64 nw] w fun e w' => e = .returned (.tuple #[]) ∧ Slt w' b (S.set ky (Ch.optV hs nw)) ∧ w.grownBy w' (some b) := by
  obtain ⟨k, rfl⟩ : ∃ k : Nat, ky = k := ⟨ky.toNat, by omega⟩
  have hk' : k < 100 := by omega
  have hsl := sliceSlot b k hk'
  have c2 := h.cell2 hk'
  have hcl := fun ty c => clearSlot w ty b (k * 2) c (fun j hj => by match j, hj with | 0, _ => rw [Nat.add_zero, c2.1]; rfl | 1, _ => rw [c2.2]; rfl) (fun j _ => h.frozen _)
  rw [setCells_two] at hcl
  have h1 := h.set2 hk' none
  have g1 : w.grownBy ((w.setCell ⟨b, k * 2, none⟩ (.bool false)).setCell ⟨b, k * 2 + 1, none⟩ (.int .i64 0)) (some b) := gr_two gr_setW gr_setW
  simp only [Option.isSome_none, Option.getD_none] at h1
  generalize hW : (w.setCell ⟨b, k * 2, none⟩ (.bool false)).setCell ⟨b, k * 2 + 1, none⟩ (.int .i64 0) = W1 at *
  have f0 := h1.frozen (k * 2)
  have f1 := h1.frozen (k * 2 + 1)
  have c1 := h1.cell2 hk'
  obtain ⟨d0, d1⟩ := c1
  have hll := h1.lt
  clear c2 hW
  cases hs
  · have HE : Hid (Ch.optV false nw = none) := rfl
    rw [HE.out]
    clear d0 d1 f0 f1
    go_enter Tryz.func52, Tryz.ntmps52
    go_wp2
    exact bodyPost_end (results_none rfl _ _ _) rfl ⟨rfl, h1, g1⟩
  · have HE : Hid (Ch.optV true nw = some nw) := rfl
    rw [HE.out]
    have h2 := h1.set2 hk' (some nw)
    rw [Ch.Sl.set_set] at h2
    have g2 := gr_two (gr_two g1 (gr_setW (w := W1) (s := b) (o := k * 2) (v := .bool true))) (gr_setW (s := b) (o := k * 2 + 1) (v := .int .i64 nw))
    go_enter Tryz.func52, Tryz.ntmps52
    go_wp2
    exact bodyPost_end (results_none rfl _ _ _) rfl ⟨rfl, h2, g2⟩
end Go.Proofs.YtoijjjckdggglaaGreat


/- The rows that a store is to begin with: faults; an answer with a code alone. -/
namespace Go.Proofs.YtoijjjckdggglaaGreat
open Go.RowKit

set_option maxHeartbeats 1000000 in
theorem implBase_any (a : Option Addr) (n cap : Nat) (rs : List Ch.Row) (w : World) (h : CellsAt w a (n * 3) (rcells rs)) (hn : n ≤ 1048576) :
    Calls Tryz.prog 32 #[.slice a n cap] w fun e w' => e = .returned (.int .i64 (Ch.baseF rs)) ∧ Below w.heap.size w w' := by
  have HL := h.rlen
  have IM := implMapOf_any a n cap rs w h hn
  obtain ⟨c, HC⟩ : ∃ c, Hid (Ch.mapF rs = c) := ⟨_, rfl⟩
  by_cases h0 : c = 0
  · subst h0
    rw [Ch.mapRR_ok HC.out] at IM
    dsimp only at IM
    by_cases hg : (Ch.noGhost rs).length < rs.length
    · rw [Ch.base_ghost HC.out hg]
      go_enter Tryz.func32, Tryz.ntmps32
      go_wp2_with fail
      refine IM.mono ?_
      rintro e w1 ⟨a1, m1, c1, rfl, hm1, o1, b1⟩
      have hm : (m1 : Int) < (n : Int) := by have := (owns_cells o1).rlen.out; have := HL.out; omega
      clear HC HL IM o1 hg
      go_wp2
      go_ret
      exact ⟨rfl, b1.alloc b1.size _⟩
    · rw [Ch.base_fine HC.out hg]
      go_enter Tryz.func32, Tryz.ntmps32
      go_wp2_with fail
      refine IM.mono ?_
      rintro e w1 ⟨a1, m1, c1, rfl, hm1, o1, b1⟩
      have hm : ¬ (m1 : Int) < (n : Int) := by have := (owns_cells o1).rlen.out; have := HL.out; omega
      clear HC HL IM o1 hg
      go_wp2
      go_ret
      exact ⟨rfl, b1.alloc b1.size _⟩
  · have hc : (c != 0) = true := by simpa using h0
    rw [Ch.mapRR_code HC.out hc] at IM
    rw [Ch.base_map HC.out hc]
    dsimp only at IM
    clear HC h0 HL
    go_enter Tryz.func32, Tryz.ntmps32
    go_wp2_with fail
    refine IM.mono ?_
    rintro e w1 ⟨a1, m1, c1, rfl, hm1, o1, b1⟩
    clear IM o1
    go_wp2
    go_ret
    exact ⟨rfl, b1.alloc b1.size _⟩

set_option maxHeartbeats 1000000 in
theorem specBase_any (a : Option Addr) (n cap : Nat) (rs : List Ch.Row) (w : World) (h : CellsAt w a (n * 3) (rcells rs)) (hn : n ≤ 1048576) :
    Calls Tryz.prog 28 #[.slice a n cap] w fun e w' => e = .returned (.int .i64 (Ch.baseF rs)) ∧ Below w.heap.size w w' := by
  have HL := h.rlen
  have IM := specMapOf_any a n cap rs w h hn
  obtain ⟨c, HC⟩ : ∃ c, Hid (Ch.mapF rs = c) := ⟨_, rfl⟩
  by_cases h0 : c = 0
  · subst h0
    rw [Ch.mapRR_ok HC.out] at IM
    dsimp only at IM
    by_cases hg : (Ch.noGhost rs).length < rs.length
    · rw [Ch.base_ghost HC.out hg]
      go_enter Tryz.func28, Tryz.ntmps28
      go_wp2_with fail
      refine IM.mono ?_
      rintro e w1 ⟨a1, m1, c1, rfl, hm1, o1, b1⟩
      have hm : ((m1 : Int) != (n : Int)) = true := by have := (owns_cells o1).rlen.out; have := HL.out; simp; omega
      clear HC HL IM o1 hg
      go_wp2
      go_ret
      exact ⟨rfl, b1.alloc b1.size _⟩
    · rw [Ch.base_fine HC.out hg]
      go_enter Tryz.func28, Tryz.ntmps28
      go_wp2_with fail
      refine IM.mono ?_
      rintro e w1 ⟨a1, m1, c1, rfl, hm1, o1, b1⟩
      have hm : ((m1 : Int) != (n : Int)) = false := by have := (owns_cells o1).rlen.out; have := HL.out; have := Ch.noGhost_len rs; simp; omega
      clear HC HL IM o1 hg
      go_wp2
      go_ret
      exact ⟨rfl, b1.alloc b1.size _⟩
  · have hc : (c != 0) = true := by simpa using h0
    rw [Ch.mapRR_code HC.out hc] at IM
    rw [Ch.base_map HC.out hc]
    dsimp only at IM
    clear HC h0 HL
    go_enter Tryz.func28, Tryz.ntmps28
    go_wp2_with fail
    refine IM.mono ?_
    rintro e w1 ⟨a1, m1, c1, rfl, hm1, o1, b1⟩
    clear IM o1
    go_wp2
    go_ret
    exact ⟨rfl, b1.alloc b1.size _⟩

end Go.Proofs.YtoijjjckdggglaaGreat


/- slotsOf, redo, rows of the program. -/
namespace Go.Proofs.YtoijjjckdggglaaGreat
open Go.RowKit

theorem buildSlots (w : World) : (Instr.build 88 #[]).run Tryz.prog w = .ok (.agg (slA (fun _ => none))) w := by kernel_rfl
theorem Ch.row_key {r : Ch.Row} (h : r.fault = 0) : 0 ≤ r.k ∧ r.k ≤ 99 := by
  have := Ch.fits_of_fault h
  unfold Ch.Row.fits at this
  omega

set_option maxRecDepth 20000 in
set_option maxHeartbeats 2000000 in
theorem slots_any (a : Option Addr) (n cap : Nat) (rs : List Ch.Row) (w : World) (h : CellsAt w a (n * 3) (rcells rs)) (hn : n ≤ 240) (hf : ∀ k, k < rs.length → (rs.getD k Ch.Row.zero).fault = 0) :
    Calls Tryz.prog 34 #[.slice a n cap] w fun e w' => e = .returned (.pointer (some ⟨w.heap.size, 0, none⟩)) ∧ Slt w' w.heap.size (Ch.baseTo rs rs.length) ∧ Below w.heap.size w w' := by
  have HL := h.rlen
  have HF := hid hf
  clear hf
  have hbd := buildSlots
  have h0 : Slt (w.alloc (.cells (slA (fun _ => none)) 88)) w.heap.size (Ch.baseTo rs 0) := heap_alloc_new w _
  go_enter Tryz.func34, Tryz.ntmps34
  go_wp2
  go_loopw [10] (fun i wr => ∃ k : Nat, k ≤ n ∧ i = .int .i64 k ∧ Slt wr w.heap.size (Ch.baseTo rs k) ∧ Below w.heap.size w wr) (fun i _ => n - (intOf i).toNat)
  case atStart => exact ⟨0, Nat.zero_le _, rfl, h0, (Below.refl _ _).alloc (Nat.le_refl _) _⟩
  case round =>
    clear h0 hbd
    obtain ⟨k, hk, rfl, hS, hB⟩ := hrel
    by_cases hlt : k < n
    · have hkl : k < rs.length := by have := HL.out; omega
      have HK := hid (Ch.row_key (HF.out k hkl))
      have HT := hid (Ch.baseTo_step (rs := rs) hkl)
      obtain ⟨b, off, rfl, q0, q1, q2⟩ := (h.below hB).row hlt
      have hbl := lt_of_cell q0
      generalize rs.getD k Ch.Row.zero = r at *
      obtain ⟨rk, rv, rg⟩ := r
      simp only at q0 q1 q2 HT HK
      have hkk : 0 ≤ rk ∧ rk ≤ 99 := HK.out
      have IS := fun W hW => set_any w.heap.size rk true rv (Ch.baseTo rs k) W hW hkk
      have hS1 := hS.alloc (.cells #[.int .i64 rk, .int .i64 rv, .bool rg] 44)
      have b1 := hB.alloc hB.size (.cells #[.int .i64 rk, .int .i64 rv, .bool rg] 44)
      go_wp2_with fail
      refine (IS _ hS1).mono ?_
      rintro e w1 ⟨rfl, hS2, g2⟩
      have b2 := b1.grown g2 b1.size (fun j hj => by cases hj; exact Nat.le_refl _)
      clear IS hS1 g2 b1
      go_wp2
      go_roundw
      case rel => exact ⟨k + 1, by omega, by go_num, by rw [HT.out]; exact hS2, b2⟩
      case measure => simp [intOf]; omega
    · obtain rfl : k = n := by omega
      have HWF : Hid (k = rs.length) := HL.out
      rw [HWF.out] at hS
      go_wp2
      go_ret
      exact ⟨rfl, hS, hB⟩

theorem Ch.redo1_no {S : Ch.Sl} {r : Ch.Rec} (h : Ch.sets r.kd = false) : Ch.redo1 S r = S := by unfold Ch.redo1; rw [h]; rfl
theorem Ch.redo1_yes {S : Ch.Sl} {r : Ch.Rec} (h : Ch.sets r.kd = true) : Ch.redo1 S r = S.set r.ky (Ch.optV r.hs r.nw) := by unfold Ch.redo1; rw [h]; rfl

set_option maxRecDepth 20000 in
set_option maxHeartbeats 2000000 in
theorem redo_any (p : Nat) (a : Option Addr) (n cap : Nat) (rs : List Ch.Rec) (S : Ch.Sl) (w : World) (h : CellsAt w a (n * 7) (rc7 rs)) (hn : n ≤ 800) (hf : ∀ k, k < rs.length → (rs.getD k Ch.Rec.zero).fault = 0) (hS : Slt w p S) (hne : 0 < n → ∀ b off, a = some ⟨b, off, none⟩ → b ≠ p) :
    Calls Tryz.prog 35 #[.pointer (some ⟨p, 0, none⟩), .slice a n cap] w fun e w' => e = .returned (.tuple #[]) ∧ Slt w' p (Ch.redoTo S rs rs.length) ∧ w.grownBy w' (some p) := by
  have HL := h.len7
  have HF := hid hf
  clear hf
  go_enter Tryz.func35, Tryz.ntmps35
  go_wp2
  go_loopw [8] (fun i wr => ∃ k : Nat, k ≤ n ∧ i = .int .i64 k ∧ Slt wr p (Ch.redoTo S rs k) ∧ w.grownBy wr (some p)) (fun i _ => n - (intOf i).toNat)
  case atStart => exact ⟨0, Nat.zero_le _, rfl, hS, ⟨rfl, rfl, rfl, Nat.le_refl _, fun _ _ _ => rfl⟩⟩
  case round =>
    clear hS
    obtain ⟨k, hk, rfl, hS, hG⟩ := hrel
    by_cases hlt : k < n
    · have hkl : k < rs.length := by have := HL.out; omega
      have HK := hid (Ch.Rec.fit (HF.out k hkl)).ky
      have HT := hid (Ch.redoTo_step (S := S) (rs := rs) hkl)
      obtain ⟨b, off, rfl, q0, q1, q2, q3, q4, q5, q6⟩ := (cells_grown h hG (fun b off ha e => hne (by omega) b off ha (by simpa using e.symm))).rec hlt
      have hbl := lt_of_cell q0
      have HN := hid (fun hh => Ch.redo1_no (S := Ch.redoTo S rs k) (r := rs.getD k Ch.Rec.zero) hh)
      have HY := hid (fun hh => Ch.redo1_yes (S := Ch.redoTo S rs k) (r := rs.getD k Ch.Rec.zero) hh)
      generalize rs.getD k Ch.Rec.zero = r at *
      obtain ⟨rk, rt, ry, rh, ro, rx, rn⟩ := r
      simp only at q0 q1 q2 q3 q4 q5 q6 HK HN HY
      have hkk : 0 ≤ ry ∧ ry ≤ 99 := HK.out
      have IS := fun W hW => set_any p ry rx rn (Ch.redoTo S rs k) W hW hkk
      have IT := fun W => tells_any rk W
      have hS1 := hS.alloc (.cells #[.int .i64 rk, .int .i64 rt, .int .i64 ry, .bool rh, .int .i64 ro, .bool rx, .int .i64 rn] 54)
      have g1 : w.grownBy (wr.alloc (.cells #[.int .i64 rk, .int .i64 rt, .int .i64 ry, .bool rh, .int .i64 ro, .bool rx, .int .i64 rn] 54)) (some p) := gr_two hG (World.grownBy_alloc wr _ _)
      cases hs : Ch.sets rk
      · rw [hs] at IT
        replace HN := hid (HT.out.trans (HN.out hs))
        clear IS HY HT hs
        go_wp2_with (go_at_call 53; refine (IT _).mono ?_; rintro e w1 ⟨rfl, hw1⟩; obtain rfl := hw1.symm)
        go_roundw
        case rel => exact ⟨k + 1, by omega, by go_num, by rw [HN.out]; exact hS1, g1⟩
        case measure => simp [intOf]; omega
      · rw [hs] at IT
        replace HY := hid (HT.out.trans (HY.out hs))
        clear HN HT hs
        go_wp2_with (first | (go_at_call 53; refine (IT _).mono ?_; rintro e w1 ⟨rfl, hw1⟩; obtain rfl := hw1.symm) | (go_at_call 52; refine (IS _ hS1).mono ?_; rintro e w2 ⟨rfl, hS2, g2⟩))
        go_roundw
        case rel => exact ⟨k + 1, by omega, by go_num, by rw [HY.out]; exact hS2, gr_two g1 g2⟩
        case measure => simp [intOf]; omega
    · obtain rfl : k = n := by omega
      have HWF : Hid (k = rs.length) := HL.out
      rw [HWF.out] at hS
      go_wp2
      exact bodyPost_end (results_none rfl _ _ _) rfl ⟨rfl, hS, hG⟩
end Go.Proofs.YtoijjjckdggglaaGreat


/- rows of the program: a row for each slot that has a value. -/
namespace Go.Proofs.YtoijjjckdggglaaGreat
open Go.RowKit

theorem rcells_appendV (a b : List Ch.Row) : rcells (a ++ b) = rcells a ++ rcells b := by simp [rcells]
theorem rcells_oneV (zs : List Ch.Row) : ∀ u ∈ rcells zs, u.oneCell' = true := by
  intro u hu
  simp only [rcells, List.mem_flatMap] at hu
  obtain ⟨r, _, hu⟩ := hu
  simp at hu
  rcases hu with rfl | rfl | rfl <;> rfl
theorem new_rowV (w : World) (k v : Int) (g : Bool) (t : TypeId) : CellsAt (w.alloc (.cells #[.int .i64 k, .int .i64 v, .bool g] t)) (some ⟨w.heap.size, 0, none⟩) (1 * 3) (rcells [⟨k, v, g⟩]) := by
  refine ⟨rfl, fun _ => ⟨_, _, rfl, fun i hi => ?_⟩⟩
  rw [Nat.zero_add]
  have := cell_of_row (w.alloc (.cells #[.int .i64 k, .int .i64 v, .bool g] t)) _ i _ _ _ (heap_alloc_new w _)
  rw [this]
  simp [rcells]

set_option maxRecDepth 20000 in
set_option maxHeartbeats 2000000 in
theorem rows_any (p : Nat) (S : Ch.Sl) (w : World) (h : Slt w p S) :
    Calls Tryz.prog 38 #[.pointer (some ⟨p, 0, none⟩)] w fun e w' => ∃ a' m c', e = .returned (.slice a' m c') ∧ m ≤ 100 ∧ w'.ownsRow w.heap.size 44 3 (.slice a' m c') m (rcells (Ch.rowsS S)) ∧ Below w.heap.size w w' := by
  obtain ⟨i0, hi0, hz0, hz1, hz2⟩ := info_parts Tryz.info44
  have HR : Hid (Ch.rowsS S = Ch.rowsTo S 100) := rfl
  rw [HR.out]
  go_enter Tryz.func38, Tryz.ntmps38
  go_wp2
  go_loopw [3, 8] (fun q i wr => ∃ (k m : Nat) (a' : Option Addr) (c' : Nat), k ≤ 100 ∧ m ≤ k ∧ i = .int .i64 k ∧ q = .slice a' m c' ∧ wr.ownsRow w.heap.size 44 3 (.slice a' m c') m (rcells (Ch.rowsTo S k)) ∧ Slt wr p S ∧ Below w.heap.size w wr) (fun _ i _ => 100 - (intOf i).toNat)
  case atStart => exact ⟨0, 0, none, 0, Nat.zero_le _, Nat.le_refl _, rfl, rfl, World.ownsRow_nil _ _ _ _, h, Below.refl _ _⟩
  case round =>
    obtain ⟨k, m, a', c', hk, hmk, rfl, rfl, own, hS, hB⟩ := hrel
    by_cases hlt : k < 100
    · have HY := hid (fun v hv => Ch.rowsTo_yes (S := S) (m := k) (v := v) hv)
      have HN := hid (fun hv => Ch.rowsTo_no (S := S) (m := k) hv)
      obtain ⟨d0, d1⟩ := hS.cell2 hlt
      have hpl := hS.lt
      generalize S (k : Int) = o at *
      generalize Ch.rowsTo S k = zs at *
      have i1 : (k : Int) < 100 := by omega
      cases o with
      | none =>
        simp only [Option.isSome_none, Option.getD_none] at d0 d1
        have own2 := owns_below own ((Below.refl _ _).alloc (Nat.le_refl _) (.cells #[.bool false, .int .i64 0] 86))
        have hS2 := hS.alloc (.cells #[.bool false, .int .i64 0] 86)
        have b2 := (hB.alloc hB.size (.cells #[.bool false, .int .i64 0] 86)).drew
        have HQ := hid (HN.out rfl)
        clear HY HN
        go_wp2
        go_region
        go_wp2
        go_roundw
        case rel => exact ⟨k + 1, m, a', c', by omega, by omega, by go_num, rfl, by rw [HQ.out]; exact own2, hS2, b2⟩
        case measure => simp [intOf]; omega
      | some v =>
        simp only [Option.isSome_some, Option.getD_some] at d0 d1
        have own2 : (wr.alloc (.cells #[.bool true, .int .i64 v] 86)).drew.ownsRow w.heap.size 44 3 (.slice a' m c') m (rcells zs) := owns_below own ((Below.refl _ wr).alloc (Nat.le_refl _) (.cells #[.bool true, .int .i64 v] 86)).drew
        have hS2 : Slt (wr.alloc (.cells #[.bool true, .int .i64 v] 86)).drew p S := hS.below ((Below.refl _ wr).alloc (Nat.le_refl _) (.cells #[.bool true, .int .i64 v] 86)).drew
        have b2 := (hB.alloc hB.size (.cells #[.bool true, .int .i64 v] 86)).drew
        have HQ := hid (HY.out v rfl)
        clear HY HN
        have kQ : Below (wr.alloc (.cells #[.bool true, .int .i64 v] 86)).drew.heap.size (wr.alloc (.cells #[.bool true, .int .i64 v] 86)).drew ((wr.alloc (.cells #[.bool true, .int .i64 v] 86)).drew.alloc (.cells #[.int .i64 k, .int .i64 v, .bool false] 44)) := (Below.refl _ _).alloc (Nat.le_refl _) _
        have own3 := owns_below own2 kQ
        have hS3 := hS2.below kQ
        have b3 := b2.trans (kQ.mono b2.size)
        have hC3 := new_rowV (wr.alloc (.cells #[.bool true, .int .i64 v] 86)).drew k v false 44
        rw [show (wr.alloc (.cells #[.bool true, .int .i64 v] 86)).drew.heap.size = wr.heap.size + 1 by simp] at hC3
        have hb3 : w.heap.size ≤ ((wr.alloc (.cells #[.bool true, .int .i64 v] 86)).drew.alloc (.cells #[.int .i64 k, .int .i64 v, .bool false] 44)).heap.size := by have := hB.size; simp; omega
        have hpw : p < w.heap.size := h.lt
        go_wp2
        go_region
        go_wp2_with (at_builtin; go_must (refine wpList_appX Tryz.underlying26 Tryz.underlying26 hi0 hz0 hz1 hz2 rfl (by omega) (by omega) (.tmp 16) (.tmp 21) ?_ ?_ w.heap.size (.slice a' m c') m (rcells zs) _ 1 1 (rcells [⟨k, v, false⟩]) ?_ ?_ own3 hC3 (rcells_oneV _) (by omega) hb3 ?_; exact rfl; exact rfl; exact rfl; exact rfl; intro a5 c5 w5 own5 gr5 at5; go_frame))
        go_roundw
        case rel =>
          rw [← rcells_appendV, ← HQ.out] at own5
          exact ⟨k + 1, m + 1, a5, c5, by omega, by omega, by go_num, rfl, own5, hS3.keep gr5 (own_apartV own3 hpw), b3.grown gr5 b3.size (fun g hg => (owns_lt own3 g hg).1)⟩
        case measure => simp [intOf]; omega
    · obtain rfl : k = 100 := by omega
      go_wp2
      go_ret
      exact ⟨a', m, c', rfl, by omega, own, hB⟩
end Go.Proofs.YtoijjjckdggglaaGreat


/- The law FnExactLeavesFault. -/
namespace Go.Proofs.YtoijjjckdggglaaGreat
open Go.RowKit

theorem small_at {ls : List (List Ch.Row)} (hs : Ch.lvSize ls ≤ 1048576) : ∀ i, (ls.getD i []).length ≤ 9223372036854775807 := fun i => by have := Ch.lv_leaf hs i; omega

end Go.Proofs.YtoijjjckdggglaaGreat


/- Marks that a law writes into leaves. -/
namespace Go.Proofs.YtoijjjckdggglaaGreat
open Go.RowKit

theorem markRowS_own (s : Int) (B n : Nat) (a : Option Addr) (cap : Nat) (rs : List Ch.Row) (w : World) (hs0 : 0 < s) (hs1 : s ≤ 1099511627776) (hown : w.ownsRow B 44 3 (.slice a n cap) n (rcells rs)) (hn : n ≤ 1048579) :
    Calls Tryz.prog 12 #[.slice a n cap, .int .i64 s] w fun e w' => e = .returned (.int .i64 (s + 3 * n)) ∧ w'.ownsRow B 44 3 (.slice a n cap) n (rcells (rmarks s n)) ∧ w.grownBy w' (Value.slice a n cap).ownBlock := by
  rcases hown.2 with ⟨hv, h0⟩ | ⟨g, cp, cur, hv, _⟩
  · simp only [Value.slice.injEq] at hv
    obtain ⟨rfl, rfl, rfl⟩ := hv
    refine (markRowS_nil s w).mono ?_
    rintro e w1 ⟨rfl, rfl⟩
    exact ⟨by simp, World.ownsRow_nil _ _ _ _, ⟨rfl, rfl, rfl, Nat.le_refl _, fun _ _ _ => rfl⟩⟩
  · simp only [Value.slice.injEq, true_and] at hv
    obtain ⟨rfl, rfl⟩ := hv
    exact markRowS_any s B g n cap rs w hs0 hs1 hown hn

/-- The marks of leaves: each from where the one ahead ends. -/
def Ch.before (ls : List (List Ch.Row)) (k : Nat) : Nat := ((ls.take k).map List.length).sum
def lvMark (ls : List (List Ch.Row)) (k : Nat) : List Ch.Row := rmarks (1 + 3 * (Ch.before ls k : Int)) (ls.getD k []).length
def lvMarks (ls : List (List Ch.Row)) : List (List Ch.Row) := (List.range ls.length).map (lvMark ls)
def lvMarked (ls : List (List Ch.Row)) (k : Nat) : List (List Ch.Row) := (List.range k).map (lvMark ls) ++ ls.drop k
theorem lvMarked_set (ls : List (List Ch.Row)) (k : Nat) (h : k < ls.length) : (lvMarked ls k).set k (lvMark ls k) = lvMarked ls (k + 1) := by
  unfold lvMarked
  rw [Ch.set_mid _ _ _ _ (by simp) h, List.range_succ]
  simp
theorem lvMarked_at (ls : List (List Ch.Row)) (k : Nat) : (lvMarked ls k).getD k [] = ls.getD k [] := by
  unfold lvMarked
  rw [List.getD, List.getElem?_append_right (by simp)]
  simp [List.getD]
theorem Ch.before_next (ls : List (List Ch.Row)) (k : Nat) (h : k < ls.length) : Ch.before ls (k + 1) = Ch.before ls k + (ls.getD k []).length := Ch.lv_take ls k h
theorem Ch.before_small {ls : List (List Ch.Row)} (hs : Ch.lvSize ls ≤ 1048576) (k : Nat) : Ch.before ls k ≤ 1048576 := by
  have := Ch.lv_le ls k
  unfold Ch.lvSize at hs
  unfold Ch.before
  omega

end Go.Proofs.YtoijjjckdggglaaGreat


/- Copies of rows and of leaves: the program's cloneLeaves. -/
namespace Go.Proofs.YtoijjjckdggglaaGreat
open Go.RowKit

end Go.Proofs.YtoijjjckdggglaaGreat


/- The library's Delete at rows and at leaves: one element. -/
namespace Go.Proofs.YtoijjjckdggglaaGreat
open Go.RowKit

theorem owns_setCells {base : Nat} {e : TypeId} {size g n cap : Nat} (news : List Value) : ∀ (j : Nat) (xs : List Value) (w : World), w.ownsRow base e size (.slice (some ⟨g, 0, none⟩) n cap) n xs → j + news.length ≤ xs.length →
    (w.setCells g j news).ownsRow base e size (.slice (some ⟨g, 0, none⟩) n cap) n (xs.take j ++ news ++ xs.drop (j + news.length)) ∧ w.grownBy (w.setCells g j news) (some g) := by
  induction news with
  | nil => intro j xs w h _; exact ⟨by simpa [World.setCells] using h, ⟨rfl, rfl, rfl, Nat.le_refl _, fun _ _ _ => rfl⟩⟩
  | cons u news ih =>
    intro j xs w h hj
    simp only [List.length_cons] at hj
    have hs := h.stored j u
    have ⟨h2, h3⟩ := ih (j + 1) _ _ hs.1 (by simp; omega)
    refine ⟨?_, gr_trans hs.2 h3⟩
    have e : (xs.set j u).take (j + 1) ++ news ++ (xs.set j u).drop (j + 1 + news.length) = xs.take j ++ u :: news ++ xs.drop (j + (news.length + 1)) := by
      rw [List.drop_set, if_pos (by omega), Ch.take_snoc _ u j (by simp; omega), List.take_set]
      rw [List.set_eq_of_length_le (by simp; omega)]
      have : (xs.set j u).getD j u = u := by simp [List.getD, show j < xs.length by omega]
      rw [this, show j + 1 + news.length = j + (news.length + 1) by omega]
      simp
    simp only [World.setCells, List.length_cons]
    rw [← e]
    exact h2
theorem owns_shrink {w : World} {base : Nat} {e : TypeId} {size g n cap m : Nat} {xs : List Value} (h : w.ownsRow base e size (.slice (some ⟨g, 0, none⟩) n cap) n xs) (hm : m ≤ n) : w.ownsRow base e size (.slice (some ⟨g, 0, none⟩) m cap) m (xs.take (m * size)) := by
  rcases h.2 with ⟨hv, _⟩ | ⟨g', cp, cur, hv, hb, hh, h1, h2, h3, h4⟩
  · simp at hv
  · simp only [Value.slice.injEq, Option.some.injEq, Addr.mk.injEq, and_true, true_and] at hv
    obtain ⟨rfl, rfl⟩ := hv
    have hle : m * size ≤ n * size := Nat.mul_le_mul_right _ hm
    refine ⟨by rw [List.length_take, h.1]; omega, .inr ⟨g, cap, cur, rfl, hb, hh, by omega, h2, h3, ?_⟩⟩
    rw [← h4, List.take_take, Nat.min_eq_left hle]

theorem clearR (w : World) (ty b o c : Nat) (hc : ∀ j, j < 3 → (w.cell? ⟨b, o + j, none⟩).isSome = true) (hf : ∀ j, j < 3 → w.frozen? ⟨b, o + j, none⟩ = false) :
    (Builtin.clear_ #[26] ty #[.slice (some ⟨b, o, none⟩) 1 c]).run Tryz.prog w = .ok (.tuple #[]) (w.setCells b o [.int .i64 0, .int .i64 0, .bool false]) := by
  have hv : ∀ W, (zeroValue 44).run Tryz.prog W = .ok (.agg #[.int .i64 0, .int .i64 0, .bool false]) W := fun _ => by kernel_rfl
  have hzc : (Builtin.zeroCells (Value.cells (.agg #[.int .i64 0, .int .i64 0, .bool false])) 1).toList = [.int .i64 0, .int .i64 0, .bool false] := by kernel_rfl
  have hst := run_storeCells_cells (P := Tryz.prog) b o [.int .i64 0, .int .i64 0, .bool false] 0 w (by simpa using hc) (by simpa using hf) (by decide)
  simp only [Nat.add_zero] at hst
  simp [Builtin.clear_, run_underlying Tryz.underlying26, hv, hzc, hst]

end Go.Proofs.YtoijjjckdggglaaGreat


/- The library's Insert at rows and at leaves: one element. -/
namespace Go.Proofs.YtoijjjckdggglaaGreat
open Go.RowKit

theorem owns_capN {w : World} {base : Nat} {e : TypeId} {size g n cap : Nat} {xs : List Value} (h : w.ownsRow base e size (.slice (some ⟨g, 0, none⟩) n cap) n xs) : n ≤ cap ∧ cap ≤ 9223372036854775807 := by
  rcases h.2 with ⟨hv, _⟩ | ⟨g', cp, cur, hv, hb, hh, h1, h2, _⟩
  · simp at hv
  · simp only [Value.slice.injEq] at hv
    obtain ⟨_, _, rfl⟩ := hv
    exact ⟨h1, by unfold maxLen at h2; exact h2⟩
theorem insert_cells (xs ys zs : List Value) (a b s : Nat) (hb : b = a + s) (hy : ys.length = s) (hz : zs.length = s) (hl : b ≤ xs.length) :
    (((xs ++ zs).take b ++ xs.drop a ++ (xs ++ zs).drop (b + (xs.drop a).length)).take a ++ ys ++ ((xs ++ zs).take b ++ xs.drop a ++ (xs ++ zs).drop (b + (xs.drop a).length)).drop (a + ys.length)) = xs.take a ++ ys ++ xs.drop a := by
  have hT : ((xs ++ zs).take b).length = b := by rw [List.length_take, List.length_append]; omega
  have hD : (xs ++ zs).drop (b + (xs.drop a).length) = [] := List.drop_of_length_le (by rw [List.length_append, List.length_drop]; omega)
  rw [hD, List.append_nil, List.take_append_of_le_length (by omega), List.take_take, Nat.min_eq_left (by omega), List.take_append_of_le_length (by omega), hy, ← hb, List.drop_append_of_le_length (by omega), List.drop_of_length_le (by omega), List.nil_append]
theorem owns_extend {w : World} {base : Nat} {e : TypeId} {size g n cap : Nat} {xs : List Value} (h : w.ownsRow base e size (.slice (some ⟨g, 0, none⟩) n cap) n xs) (hc : n + 1 ≤ cap) : ∃ zs : List Value, zs.length = size ∧ w.ownsRow base e size (.slice (some ⟨g, 0, none⟩) (n + 1) cap) (n + 1) (xs ++ zs) := by
  have hx := h.1
  rcases h.2 with ⟨hv, _⟩ | ⟨g', cp, cur, hv, hb, hh, h1, h2, h3, h4⟩
  · simp at hv
  · simp only [Value.slice.injEq, Option.some.injEq, Addr.mk.injEq, and_true, true_and] at hv
    obtain ⟨rfl, rfl⟩ := hv
    have hm : (n + 1) * size ≤ cap * size := Nat.mul_le_mul_right _ hc
    have hm2 : (n + 1) * size = n * size + size := by rw [Nat.add_mul, Nat.one_mul]
    refine ⟨(cur.toList.drop (n * size)).take size, by simp; omega, ?_, .inr ⟨g, cap, cur, rfl, hb, hh, hc, h2, h3, ?_⟩⟩
    · simp; omega
    · rw [hm2, List.take_add, h4]
/-- A copy whose run is known. -/
theorem wp_copyR {P : Program} (w : World) {o : Oper} {a : Act} {K : Act → World → Prop} {Q : Exit → Act → World → Prop} (d s : Operand) (t t' : TypeId)
    (ho : o.op = .call { callee := .builtin .copy, args := #[d, s], argTypes := #[t, t'] }) (v u : Value) (hd : a.eval d = v) (hs : a.eval s = u) {x : Value} {w' : World}
    (hr : (Builtin.copy_ #[t, t'] o.type #[v, u]).run P w = .ok x w') (hK : K (a.put o.dst x) w') : o.wp P a w K Q := by
  unfold Oper.wp
  simp [execOp, ho, resolve, invoke, builtin, hd, hs, hr, Result.andThen]
  exact hK
theorem wpList_copyR {P : Program} (w : World) {ops : Array Oper} {rest : List Oper} {o : Oper} {a : Act} {Q : Exit → Act → World → Prop} (hg : o.guard = none) (d s : Operand) (t t' : TypeId)
    (ho : o.op = .call { callee := .builtin .copy, args := #[d, s], argTypes := #[t, t'] }) (v u : Value) (hd : a.eval d = v) (hs : a.eval s = u) {x : Value} {w' : World}
    (hr : (Builtin.copy_ #[t, t'] o.type #[v, u]).run P w = .ok x w') (hK : wpList P ops Q rest (a.put o.dst x) w') : wpList P ops Q (o :: rest) a w :=
  wpList_plain hg fun _ h => wp_copyR w d s t t' ho v u hd hs hr (h _ _ hK)
theorem step_copyR {P : Program} {ops : Array Oper} {o : Oper} {a : Act} {w : World} {K : Act → World → Prop} {Q : Exit → Act → World → Prop} {E : Prop} (hg : o.guard = none) (d s : Operand) (t t' : TypeId)
    (ho : o.op = .call { callee := .builtin .copy, args := #[d, s], argTypes := #[t, t'] }) (v u : Value) (hd : a.eval d = v) (hs : a.eval s = u) {x : Value} {w' : World}
    (hr : (Builtin.copy_ #[t, t'] o.type #[v, u]).run P w = .ok x w') (hK : K (a.put o.dst x) w') : if Region.wanted o (yielded ops a.tmps) = true then Oper.wp P o a w K Q else E := by
  have hw : Region.wanted o (yielded ops a.tmps) = true := by simp [Region.wanted, hg]
  rw [if_pos hw]
  exact wp_copyR w d s t t' ho v u hd hs hr hK
theorem run_copyS {P : Program} (w : World) (dT sT ty elem : TypeId) (b o dLen dCap : Nat) (a : Addr) (sLen sCap size k : Nat) (cs : List Value) (i : TypeInfo)
    (hu : P.underlying dT = some (.slice elem)) (hi : P.info? elem = some i) (hs : i.size = size) (hk : Nat.min sLen dLen = k) (hn : cs.length = k * size)
    (hsrc : ∀ j v, cs[j]? = some v → w.cell? (a.add j) = some v) (hc : ∀ j, j < cs.length → (w.cell? ⟨b, o + j, none⟩).isSome = true) (hf : ∀ j, j < cs.length → w.frozen? ⟨b, o + j, none⟩ = false) (h1 : ∀ v ∈ cs, v.oneCell' = true) :
    (Builtin.copy_ #[dT, sT] ty #[.slice (some ⟨b, o, none⟩) dLen dCap, .slice (some a) sLen sCap]).run P w = .ok (goInt k) (w.setCells b o cs) := by
  have hl := run_loadCells_list (P := P) w a cs hsrc
  have hst := run_storeCells_cells (P := P) b o cs 0 w (by simpa using hc) (by simpa using hf) h1
  subst hk
  simp [Builtin.copy_, run_underlying hu, Builtin.lenOf, Builtin.firstCells, sizeOf, typeInfo, hi, hs, ← hn, hl, hst]

end Go.Proofs.YtoijjjckdggglaaGreat


/- The library's Insert at rows and at leaves: one element, where a new array is made; and all ways as one. -/
namespace Go.Proofs.YtoijjjckdggglaaGreat
open Go.RowKit

theorem heap_newI {w : World} {o : Obj} {n : Nat} (h : n = w.heap.size) : (w.alloc o).heap[n]? = some o := by
  subst h; exact heap_alloc_new w o
theorem insert_cells2 (xs ys zs : List Value) (a b s : Nat) (hb : b = a + s) (hy : ys.length = s) (hz : a + zs.length = xs.length + s) (hl : b ≤ xs.length) :
    (((xs.take a ++ zs).take a ++ ys ++ (xs.take a ++ zs).drop (a + ys.length)).take b ++ xs.drop a ++ ((xs.take a ++ zs).take a ++ ys ++ (xs.take a ++ zs).drop (a + ys.length)).drop (b + (xs.drop a).length)) = xs.take a ++ ys ++ xs.drop a := by
  have hT : (xs.take a).length = a := by rw [List.length_take]; omega
  have h1 : (xs.take a ++ zs).take a = xs.take a := by rw [List.take_append_of_le_length (by omega), List.take_of_length_le (by omega)]
  have hD : ∀ us : List Value, us.length = xs.length + s → us.drop (b + (xs.drop a).length) = [] := fun us h => List.drop_of_length_le (by rw [List.length_drop]; omega)
  rw [h1, hD _ (by simp only [List.length_append, List.length_drop, hT]; omega), List.append_nil, List.take_append_of_le_length (by rw [List.length_append]; omega), List.take_of_length_le (by rw [List.length_append]; omega)]

theorem grow_oneR (B g n cap i : Nat) (xs : List Value) (w : World) (ty : TypeId) (hown : w.ownsRow B 44 3 (.slice (some ⟨g, 0, none⟩) n cap) n xs) (hn : n ≤ 1048576) (hi : i < n) (hroom : cap < n + 1) (hB : B ≤ w.heap.size) :
    ∃ C W0 zs, (Builtin.append_ #[26, 3] ty #[.slice (some ⟨g, 0, none⟩) i cap, .int .i64 ((n : Int) + 1 - i)]).run Tryz.prog w = .ok (.slice (some ⟨w.heap.size, 0, none⟩) (n + 1) C) W0 ∧ n + 1 ≤ C ∧ List.length zs = (n + 1 - i) * 3 ∧ W0.ownsRow B 44 3 (.slice (some ⟨w.heap.size, 0, none⟩) (n + 1) C) (n + 1) (xs.take (i * 3) ++ zs) ∧ Below w.heap.size w W0 := by
  obtain ⟨i0, hi0, hz0, hz1, hz2⟩ := info_parts Tryz.info44
  have hcap := owns_capN hown
  have hx := hown.1
  have hik : i + (n + 1 - i) = n + 1 := by omega
  have hz' : ((n : Int) + 1 - i) = ((n + 1 - i : Nat) : Int) := by omega
  have hlt : (xs.take (i * 3)).length = i * 3 := by rw [List.length_take]; omega
  have hold : (Builtin.firstCells i0.size i (.slice (some ⟨g, 0, none⟩) i cap)).run Tryz.prog w.drew = .ok (xs.take (i * 3)).toArray w.drew := by
    have oD : w.drew.ownsRow B 44 3 (.slice (some ⟨g, 0, none⟩) n cap) n xs := hown
    have hl := run_loadCells_list (P := Tryz.prog) w.drew ⟨g, 0, none⟩ (xs.take (i * 3)) (fun j v hj => by
      have hjl := (List.getElem?_eq_some_iff.1 hj).1
      rw [Addr.add_lit, Nat.zero_add, oD.cellAt _ (by omega)]
      rw [List.getElem?_take] at hj
      split at hj
      · exact hj
      · simp at hj)
    rw [hlt] at hl
    simp only [Builtin.firstCells, hz1]
    exact hl
  have hrun := Lib.run_append_grow_zeros (P := Tryz.prog) w 26 3 ty 44 i0 (.agg #[.int .i64 0, .int .i64 0, .bool false]) .i64 .i64 Tryz.underlying26 Tryz.underlying3 hi0 hz0 (some ⟨g, 0, none⟩) i cap (xs.take (i * 3)) hold (n + 1 - i) (by omega) (by omega) (by omega) (by omega) (by rw [hz2]; omega) (by rw [hz2, hik]; exact growslice_fits (by omega) (by omega))
  rw [hik] at hrun
  rw [hz']
  have hge := grownCap_ge w (n + 1) cap 44
  have hle := grownCap_le_maxLen w (n + 1) cap 44 (by unfold maxLen; omega)
  generalize grownCap w (n + 1) cap 44 = C at hrun hge hle
  have hzc : ∀ q, (Builtin.zeroCells (Value.cells (.agg #[.int .i64 0, .int .i64 0, .bool false])) q).size = q * 3 := fun q => by simp [Builtin.zeroCells, Value.cells]
  have hzt : (Builtin.zeroCells (Value.cells (.agg #[.int .i64 0, .int .i64 0, .bool false])) (n + 1 - i)).toList.length = (n + 1 - i) * 3 := by rw [Array.length_toList, hzc]
  refine ⟨C, _, (Builtin.zeroCells (Value.cells (.agg #[.int .i64 0, .int .i64 0, .bool false])) (n + 1 - i)).toList, hrun, hge, hzt, ⟨?_, .inr ⟨w.heap.size, C, _, rfl, hB, heap_newI (by simp), hge, hle, ?_, ?_⟩⟩, ((Below.refl _ _).drew).alloc (by simp) _⟩
  · rw [List.length_append, hlt, hzt]; omega
  · rw [Array.size_append, Array.size_append, hzc, hzc, List.size_toArray, hlt]; omega
  · have e0 : ((xs.take (i * 3)).toArray ++ Builtin.zeroCells (Value.cells (.agg #[.int .i64 0, .int .i64 0, .bool false])) (n + 1 - i) ++ Builtin.zeroCells (Value.cells (.agg #[.int .i64 0, .int .i64 0, .bool false])) (C - (n + 1))).toList = (xs.take (i * 3) ++ (Builtin.zeroCells (Value.cells (.agg #[.int .i64 0, .int .i64 0, .bool false])) (n + 1 - i)).toList) ++ (Builtin.zeroCells (Value.cells (.agg #[.int .i64 0, .int .i64 0, .bool false])) (C - (n + 1))).toList := by simp only [Array.toList_append]
    rw [e0, List.take_append_of_le_length (by rw [List.length_append, hlt, hzt]; omega), List.take_of_length_le (by rw [List.length_append, hlt, hzt]; omega)]

end Go.Proofs.YtoijjjckdggglaaGreat


/- The map of places by key. -/
namespace Go.Proofs.YtoijjjckdggglaaGreat
open Go.RowKit Go.Maps

/-- How a place reads. -/
def plElem (v : Value) : Option (DataW Unit × List MemPlace) :=
  match v with
  | .agg a => match a.toList with
    | [.int .i64 l, .int .i64 t] => some (.agg [.lit (.int .i64 l), .lit (.int .i64 t)], [])
    | _ => none
  | _ => none
def kk (key : Int) : Lit := .int .i64 key
def pl (i j : Nat) : DataW Unit := .agg [.lit (.int .i64 i), .lit (.int .i64 j)]
theorem plElem_mk (l t : Int) : plElem (.agg #[.int .i64 l, .int .i64 t]) = some (.agg [.lit (.int .i64 l), .lit (.int .i64 t)], []) := rfl
theorem plElem_inv {v : Value} {l t : Int} {ps : List MemPlace} (h : plElem v = some (.agg [.lit (.int .i64 l), .lit (.int .i64 t)], ps)) : v = .agg #[.int .i64 l, .int .i64 t] := by
  unfold plElem at h
  split at h
  · rename_i a
    split at h
    · rename_i l' t' he
      simp at h
      obtain ⟨⟨rfl, rfl⟩, _⟩ := h
      have : a = #[.int .i64 l', .int .i64 t'] := by
        cases a
        simpa using he
      rw [this]
    · simp at h
  · simp at h
theorem Tryz.keyed : Keyed Tryz.prog 2 := int_keyed Tryz.underlying2
theorem kk_key {key : Int} (h0 : 0 ≤ key) (h1 : key ≤ 99) : keyOf Tryz.prog 2 (.int .i64 key) = some (kk key) := keyOf_int_mk Tryz.underlying2 (WalkArith.wf_i64 (by omega))
theorem kk_isKey (key : Int) : WideAt.IsKeyLit (kk key) := by unfold kk; simp [WideAt.IsKeyLit]
theorem kk_ne {a b : Int} (h : a ≠ b) : kk a ≠ kk b := by unfold kk; simpa using h

/-- What the map holds ahead of the row m of the leaf k. -/
structure Pl (ls : List (List Ch.Row)) (D : DataW Unit) (k m : Nat) : Prop where
  yes : ∀ i j, (i < k ∨ i = k ∧ j < m) → i < ls.length → j < (ls.getD i []).length → Maps.has D (kk (Ch.keyAt ls i j)) = true ∧ ∀ z, D.atKey (kk (Ch.keyAt ls i j)) z = pl i j
  no : ∀ key, Maps.has D (kk key) = true → ∃ i j, i < ls.length ∧ j < (ls.getD i []).length ∧ Ch.keyAt ls i j = key

theorem Pl.empty (ls : List (List Ch.Row)) : Pl ls (.map []) 0 0 := by
  refine ⟨fun i j h => ?_, fun key h => ?_⟩
  · omega
  · simp [Maps.has] at h
theorem Pl.leaf {ls : List (List Ch.Row)} {D : DataW Unit} {k m : Nat} (h : Pl ls D k m) (hm : (ls.getD k []).length ≤ m) : Pl ls D (k + 1) 0 := by
  refine ⟨fun i j hij hi hj => h.yes i j ?_ hi hj, h.no⟩
  by_cases hik : i = k
  · subst hik; right; exact ⟨rfl, by omega⟩
  · left; omega
theorem Pl.put {ls : List (List Ch.Row)} {D : DataW Unit} {k m : Nat} (h : Pl ls D k m) (hg : Ch.leavesFault ls = 0) (hk : k < ls.length) (hm : m < (ls.getD k []).length) (hD : IsMap D) : Pl ls (D.put (kk (Ch.keyAt ls k m)) (pl k m)) k (m + 1) := by
  refine ⟨fun i j hij hi hj => ?_, fun key hkey => ?_⟩
  · by_cases he : i = k ∧ j = m
    · obtain ⟨rfl, rfl⟩ := he
      exact ⟨has_put_same hD (kk_isKey _) _, fun z => atKey_put_same hD (kk_isKey _) _ z⟩
    · have hne : Ch.keyAt ls i j ≠ Ch.keyAt ls k m := fun e => he (Ch.keys_apart hg hi hj hk hm e)
      have := h.yes i j (by omega) hi hj
      exact ⟨by rw [has_put_other (kk_ne hne)]; exact this.1, fun z => by rw [atKey_put_other (kk_ne hne)]; exact this.2 z⟩
  · by_cases he : key = Ch.keyAt ls k m
    · exact ⟨k, m, hk, hm, he.symm⟩
    · rw [has_put_other (kk_ne he)] at hkey
      exact h.no key hkey

end Go.Proofs.YtoijjjckdggglaaGreat


/- LeafFor of the program, and the law. -/
namespace Go.Proofs.YtoijjjckdggglaaGreat
open Go.RowKit

theorem one_key {w : World} {o : Obj} {key : Int} {t : TypeId} : CellsAt ((w.alloc o).alloc (.cells #[.int .i64 key] t)) (some ⟨w.heap.size + 1, 0, none⟩) 1 (kts [key]) := by
  refine ⟨rfl, fun _ => ⟨_, _, rfl, fun i hi => ?_⟩⟩
  obtain rfl : i = 0 := by omega
  rw [show w.heap.size + 1 = (w.alloc o).heap.size by simp]
  exact cell_of_row _ _ _ _ _ _ (heap_alloc_new (w.alloc o) _)

end Go.Proofs.YtoijjjckdggglaaGreat

