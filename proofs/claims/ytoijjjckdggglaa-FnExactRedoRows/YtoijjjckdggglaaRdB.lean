
/- set of the program: a slot is cleared, then filled. -/
import Derived.Test.YtoijjjckdggglaaRdA
namespace Go.Proofs.Ytoijjjckdggglaa
open Go.RowKit

theorem setCells_two (w : World) (b o : Nat) (x y : Value) : w.setCells b o [x, y] = (w.setCell ⟨b, o, none⟩ x).setCell ⟨b, o + 1, none⟩ y := rfl
theorem Slt.set2 {w : World} {b : Nat} {S : Ch.Sl} (h : Slt w b S) {k : Nat} (hk : k < 100) (o : Option Int) : Slt ((w.setCell ⟨b, k * 2, none⟩ (.bool o.isSome)).setCell ⟨b, k * 2 + 1, none⟩ (.int .i64 (o.getD 0))) b (S.set k o) := by
  have := h.put hk o
  rw [Nat.mul_comm] at this
  exact this
theorem Slt.cell2 {w : World} {b : Nat} {S : Ch.Sl} (h : Slt w b S) {i : Nat} (hi : i < 100) : w.cell? ⟨b, i * 2, none⟩ = some (.bool (S i).isSome) ∧ w.cell? ⟨b, i * 2 + 1, none⟩ = some (.int .i64 ((S i).getD 0)) := by
  rw [Nat.mul_comm]
  exact h.cell hi
theorem Ch.Sl.set_set (S : Ch.Sl) (k : Int) (o p : Option Int) : (S.set k o).set k p = S.set k p := by
  funext q
  simp only [Ch.Sl.set]
  split <;> rfl
theorem gr_setW {w : World} {s o : Nat} {v : Value} : w.grownBy (w.setCell ⟨s, o, none⟩ v) (some s) := ⟨rfl, rfl, rfl, by simp [World.setCell], fun k _ hne => Below.heap_setCell _ _ _ _ (by intro e; exact hne (by rw [e]))⟩
theorem gr_two {a b c : World} {row : Option Nat} (h : a.grownBy b row) (k : b.grownBy c row) : a.grownBy c row :=
  ⟨k.os.trans h.os, k.tape.trans h.tape, k.output.trans h.output, Nat.le_trans h.size k.size, fun i hi hne => (k.block i (Nat.lt_of_lt_of_le hi h.size) hne).trans (h.block i hi hne)⟩

theorem clearSlot (w : World) (ty b o c : Nat) (hc : ∀ j, j < 2 → (w.cell? ⟨b, o + j, none⟩).isSome = true) (hf : ∀ j, j < 2 → w.frozen? ⟨b, o + j, none⟩ = false) :
    (Builtin.clear_ #[95] ty #[.slice (some ⟨b, o, none⟩) 1 c]).run Try.prog w = .ok (.tuple #[]) (w.setCells b o [.bool false, .int .i64 0]) := by
  have hv : ∀ W, (zeroValue 81).run Try.prog W = .ok (.agg #[.bool false, .int .i64 0]) W := fun _ => by kernel_rfl
  have hzc : (Builtin.zeroCells (Value.cells (.agg #[.bool false, .int .i64 0])) 1).toList = [.bool false, .int .i64 0] := by kernel_rfl
  have hst := run_storeCells_cells (P := Try.prog) b o [.bool false, .int .i64 0] 0 w (by simpa using hc) (by simpa using hf) (by decide)
  simp only [Nat.add_zero] at hst
  simp [Builtin.clear_, run_underlying Try.underlying95, hv, hzc, hst]
theorem sliceSlot (b k : Nat) (hk : k < 100) (w : World) :
    (Instr.sliceAt 83 (.pointer (some ⟨b, 0, none⟩)) (some (.int .i64 (k : Int))) (some (.int .i64 ((k : Int) + 1))) none).run Try.prog w = .ok (.slice (some ⟨b, k * 2, none⟩) 1 (100 - k)) w := by
  have ha : Try.prog.underlying 83 = some (.array (Try.prog.arrayLen 83) (Try.prog.elem 83)) := by kernel_rfl
  have hl : Try.prog.arrayLen 83 = 100 := by kernel_rfl
  have he : Try.prog.elem 83 = 81 := by kernel_rfl
  have hs := Try.sizeOf81
  rw [← he] at hs
  rw [run_sliceAt_array_lh (ht := ha) (h0 := by omega) (h1 := by omega) (h2 := by rw [hl]; omega), hs]
  have e1 : (k : Int).toNat = k := by omega
  have e2 : ((k : Int) + 1).toNat = k + 1 := by omega
  rw [hl, e1, e2]
  unfold Result.andThen slicedAt
  dsimp only
  rw [if_neg (by omega), addr_add, Nat.zero_add, show k + 1 - k = 1 by omega]

set_option maxHeartbeats 2000000 in
theorem set_any (b : Nat) (ky : Int) (hs : Bool) (nw : Int) (S : Ch.Sl) (w : World) (h : Slt w b S) (hk : 0 ≤ ky ∧ ky ≤ 99) :
    Calls Try.prog 56 #[.pointer (some ⟨b, 0, none⟩), .int .i64 ky, .bool hs, .int .i64 nw] w fun e w' => e = .returned (.tuple #[]) ∧ Slt w' b (S.set ky (Ch.optV hs nw)) ∧ w.grownBy w' (some b) := by
  obtain ⟨k, rfl⟩ : ∃ k : Nat, ky = k := ⟨ky.toNat, by omega⟩
  have hk' : k < 100 := by omega
  have hsl := sliceSlot b k hk'
  have c2 := h.cell2 hk'
  have hcl := fun ty c => clearSlot w ty b (k * 2) c (fun j hj => by match j, hj with | 0, _ => rw [Nat.add_zero, c2.1]; rfl | 1, _ => rw [c2.2]; rfl) (fun j _ => h.frozen _)
  rw [setCells_two] at hcl
  have h1 := h.set2 hk' none
  have g1 : w.grownBy ((w.setCell ⟨b, k * 2, none⟩ (.bool false)).setCell ⟨b, k * 2 + 1, none⟩ (.int .i64 0)) (some b) := gr_two gr_setW gr_setW
  simp only [Option.isSome_none, Option.getD_none] at h1
  generalize hW : (w.setCell ⟨b, k * 2, none⟩ (.bool false)).setCell ⟨b, k * 2 + 1, none⟩ (.int .i64 0) = W1 at *
  have f0 := h1.frozen (k * 2)
  have f1 := h1.frozen (k * 2 + 1)
  have c1 := h1.cell2 hk'
  obtain ⟨d0, d1⟩ := c1
  have hll := h1.lt
  clear c2 hW
  cases hs
  · have HE : Hid (Ch.optV false nw = none) := rfl
    rw [HE.out]
    clear d0 d1 f0 f1
    go_enter Try.func56, Try.ntmps56
    go_wp2
    exact bodyPost_end (results_none rfl _ _ _) rfl ⟨rfl, h1, g1⟩
  · have HE : Hid (Ch.optV true nw = some nw) := rfl
    rw [HE.out]
    have h2 := h1.set2 hk' (some nw)
    rw [Ch.Sl.set_set] at h2
    have g2 := gr_two (gr_two g1 (gr_setW (w := W1) (s := b) (o := k * 2) (v := .bool true))) (gr_setW (s := b) (o := k * 2 + 1) (v := .int .i64 nw))
    go_enter Try.func56, Try.ntmps56
    go_wp2
    exact bodyPost_end (results_none rfl _ _ _) rfl ⟨rfl, h2, g2⟩
end Go.Proofs.Ytoijjjckdggglaa
