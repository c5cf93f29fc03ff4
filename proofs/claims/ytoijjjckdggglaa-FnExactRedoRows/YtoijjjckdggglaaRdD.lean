
/- rows of the program: a row for each slot that has a value. -/
import Derived.Test.YtoijjjckdggglaaRdC
import Derived.Test.YtoijjjckdggglaaScanW
namespace Go.Proofs.Ytoijjjckdggglaa
open Go.RowKit

theorem rcells_appendV (a b : List Ch.Row) : rcells (a ++ b) = rcells a ++ rcells b := by simp [rcells]
theorem rcells_oneV (zs : List Ch.Row) : ∀ u ∈ rcells zs, u.oneCell' = true := by
  intro u hu
  simp only [rcells, List.mem_flatMap] at hu
  obtain ⟨r, _, hu⟩ := hu
  simp at hu
  rcases hu with rfl | rfl | rfl <;> rfl
theorem new_rowV (w : World) (k v : Int) (g : Bool) (t : TypeId) : CellsAt (w.alloc (.cells #[.int .i64 k, .int .i64 v, .bool g] t)) (some ⟨w.heap.size, 0, none⟩) (1 * 3) (rcells [⟨k, v, g⟩]) := by
  refine ⟨rfl, fun _ => ⟨_, _, rfl, fun i hi => ?_⟩⟩
  rw [Nat.zero_add]
  have := cell_of_row (w.alloc (.cells #[.int .i64 k, .int .i64 v, .bool g] t)) _ i _ _ _ (heap_alloc_new w _)
  rw [this]
  simp [rcells]

set_option maxRecDepth 20000 in
set_option maxHeartbeats 2000000 in
theorem rows_any (p : Nat) (S : Ch.Sl) (w : World) (h : Slt w p S) :
    Calls Try.prog 38 #[.pointer (some ⟨p, 0, none⟩)] w fun e w' => ∃ a' m c', e = .returned (.slice a' m c') ∧ m ≤ 100 ∧ w'.ownsRow w.heap.size 50 3 (.slice a' m c') m (rcells (Ch.rowsS S)) ∧ Below w.heap.size w w' := by
  obtain ⟨i0, hi0, hz0, hz1, hz2⟩ := info_parts Try.info50
  have HR : Hid (Ch.rowsS S = Ch.rowsTo S 100) := rfl
  rw [HR.out]
  go_enter Try.func38, Try.ntmps38
  go_wp2
  go_loopw [3, 8] (fun q i wr => ∃ (k m : Nat) (a' : Option Addr) (c' : Nat), k ≤ 100 ∧ m ≤ k ∧ i = .int .i64 k ∧ q = .slice a' m c' ∧ wr.ownsRow w.heap.size 50 3 (.slice a' m c') m (rcells (Ch.rowsTo S k)) ∧ Slt wr p S ∧ Below w.heap.size w wr) (fun _ i _ => 100 - (intOf i).toNat)
  case atStart => exact ⟨0, 0, none, 0, Nat.zero_le _, Nat.le_refl _, rfl, rfl, World.ownsRow_nil _ _ _ _, h, Below.refl _ _⟩
  case round =>
    obtain ⟨k, m, a', c', hk, hmk, rfl, rfl, own, hS, hB⟩ := hrel
    by_cases hlt : k < 100
    · have HY := hid (fun v hv => Ch.rowsTo_yes (S := S) (m := k) (v := v) hv)
      have HN := hid (fun hv => Ch.rowsTo_no (S := S) (m := k) hv)
      obtain ⟨d0, d1⟩ := hS.cell2 hlt
      have hpl := hS.lt
      generalize S (k : Int) = o at *
      generalize Ch.rowsTo S k = zs at *
      have i1 : (k : Int) < 100 := by omega
      cases o with
      | none =>
        simp only [Option.isSome_none, Option.getD_none] at d0 d1
        have own2 := owns_below own ((Below.refl _ _).alloc (Nat.le_refl _) (.cells #[.bool false, .int .i64 0] 81))
        have hS2 := hS.alloc (.cells #[.bool false, .int .i64 0] 81)
        have b2 := (hB.alloc hB.size (.cells #[.bool false, .int .i64 0] 81)).drew
        have HQ := hid (HN.out rfl)
        clear HY HN
        go_wp2
        go_region
        go_wp2
        go_roundw
        case rel => exact ⟨k + 1, m, a', c', by omega, by omega, by go_num, rfl, by rw [HQ.out]; exact own2, hS2, b2⟩
        case measure => simp [intOf]; omega
      | some v =>
        simp only [Option.isSome_some, Option.getD_some] at d0 d1
        have own2 : (wr.alloc (.cells #[.bool true, .int .i64 v] 81)).drew.ownsRow w.heap.size 50 3 (.slice a' m c') m (rcells zs) := owns_below own ((Below.refl _ wr).alloc (Nat.le_refl _) (.cells #[.bool true, .int .i64 v] 81)).drew
        have hS2 : Slt (wr.alloc (.cells #[.bool true, .int .i64 v] 81)).drew p S := hS.below ((Below.refl _ wr).alloc (Nat.le_refl _) (.cells #[.bool true, .int .i64 v] 81)).drew
        have b2 := (hB.alloc hB.size (.cells #[.bool true, .int .i64 v] 81)).drew
        have HQ := hid (HY.out v rfl)
        clear HY HN
        have kQ : Below (wr.alloc (.cells #[.bool true, .int .i64 v] 81)).drew.heap.size (wr.alloc (.cells #[.bool true, .int .i64 v] 81)).drew ((wr.alloc (.cells #[.bool true, .int .i64 v] 81)).drew.alloc (.cells #[.int .i64 k, .int .i64 v, .bool false] 50)) := (Below.refl _ _).alloc (Nat.le_refl _) _
        have own3 := owns_below own2 kQ
        have hS3 := hS2.below kQ
        have b3 := b2.trans (kQ.mono b2.size)
        have hC3 := new_rowV (wr.alloc (.cells #[.bool true, .int .i64 v] 81)).drew k v false 50
        rw [show (wr.alloc (.cells #[.bool true, .int .i64 v] 81)).drew.heap.size = wr.heap.size + 1 by simp] at hC3
        have hb3 : w.heap.size ≤ ((wr.alloc (.cells #[.bool true, .int .i64 v] 81)).drew.alloc (.cells #[.int .i64 k, .int .i64 v, .bool false] 50)).heap.size := by have := hB.size; simp; omega
        have hpw : p < w.heap.size := h.lt
        go_wp2
        go_region
        go_wp2_with (at_builtin; go_must (refine wpList_appX Try.underlying27 Try.underlying27 hi0 hz0 hz1 hz2 rfl (by omega) (by omega) (.tmp 16) (.tmp 21) ?_ ?_ w.heap.size (.slice a' m c') m (rcells zs) _ 1 1 (rcells [⟨k, v, false⟩]) ?_ ?_ own3 hC3 (rcells_oneV _) (by omega) hb3 ?_; exact rfl; exact rfl; exact rfl; exact rfl; intro a5 c5 w5 own5 gr5 at5; go_frame))
        go_roundw
        case rel =>
          rw [← rcells_appendV, ← HQ.out] at own5
          exact ⟨k + 1, m + 1, a5, c5, by omega, by omega, by go_num, rfl, own5, hS3.keep gr5 (own_apartV own3 hpw), b3.grown gr5 b3.size (fun g hg => (owns_lt own3 g hg).1)⟩
        case measure => simp [intOf]; omega
    · obtain rfl : k = 100 := by omega
      go_wp2
      go_ret
      exact ⟨a', m, c', rfl, by omega, own, hB⟩
end Go.Proofs.Ytoijjjckdggglaa
