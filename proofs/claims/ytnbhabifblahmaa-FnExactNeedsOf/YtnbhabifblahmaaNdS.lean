
/- NeedsOf of the model. -/
import Derived.Test.YtnbhabifblahmaaNdI
import Derived.Test.YtnbhabifblahmaaHm
import Derived.Test.YtnbhabifblahmaaAppX
import Derived.Test.YtnbhabifblahmaaSmall
import Derived.Lib.SmallJoins
namespace Go.Proofs.Ytnbhabifblahmaa
open Go.RowKit

theorem gr_heapN {w w' : World} {row : Option Nat} {b : Nat} {o : Obj} (hg : w.grownBy w' row) (h : w.heap[b]? = some o) (hne : row ≠ some b) : w'.heap[b]? = some o :=
  (hg.block b (Array.getElem?_eq_some_iff.1 h).1 (fun e => hne e.symm)).trans h

def L10E (k a : Int) (w : World) (e : Ending) (w' : World) : Prop :=
  ∃ g m, e = .returned (.slice g m m) ∧ m ≤ 2 ∧ CellsAt w' g (m * 2) (hcells (Ch.needL k a)) ∧ (∀ b o, g = some ⟨b, o, none⟩ → w.heap.size ≤ b) ∧ Below w.heap.size w w'

set_option linter.unusedVariables false in
set_option maxHeartbeats 1000000 in
theorem l10Needs_1 (a b v : Int) (ha : 0 ≤ a ∧ a ≤ 99) (w : World) :
    Calls Try.prog 18 #[.agg #[.int .i64 1, .int .i64 a, .int .i64 b, .int .i64 v]] w fun e w' => L10E 1 a w e w' := by
  unfold L10E
  rw [show Ch.needL 1 a = [⟨0, 1⟩, ⟨a + 1, 3⟩] from rfl]
  obtain ⟨h1, h2⟩ := ha
  go_enter Try.func18, Try.ntmps18
  go_wp2
  go_ret
  have o := World.ownsRow_lit (base := w.heap.size) (e := 43) (size := 2) (w.alloc (.cells #[.int .i64 1, .int .i64 a, .int .i64 b, .int .i64 v] 25)) #[.int .i64 0, .int .i64 1, .int .i64 (a + 1), .int .i64 3] 2 (by simp) (by unfold maxLen; omega) (by simp)
  rw [show (w.alloc (.cells #[.int .i64 1, .int .i64 a, .int .i64 b, .int .i64 v] 25)).heap.size = w.heap.size + 1 by simp] at o
  exact ⟨_, _, rfl, by omega, owns_cells o, fun b' o' h => (by simp only [Option.some.injEq, Addr.mk.injEq] at h; omega), ((Below.refl _ _).alloc (Nat.le_refl _) _).alloc (by simp) _⟩

set_option linter.unusedVariables false in
set_option maxHeartbeats 1000000 in
theorem l10Needs_2 (a b v : Int) (ha : 0 ≤ a ∧ a ≤ 99) (w : World) :
    Calls Try.prog 18 #[.agg #[.int .i64 2, .int .i64 a, .int .i64 b, .int .i64 v]] w fun e w' => L10E 2 a w e w' := by
  unfold L10E
  rw [show Ch.needL 2 a = [⟨0, 2⟩, ⟨a + 1, 5⟩] from rfl]
  obtain ⟨h1, h2⟩ := ha
  go_enter Try.func18, Try.ntmps18
  go_wp2
  go_ret
  have o := World.ownsRow_lit (base := w.heap.size) (e := 43) (size := 2) (w.alloc (.cells #[.int .i64 2, .int .i64 a, .int .i64 b, .int .i64 v] 25)) #[.int .i64 0, .int .i64 2, .int .i64 (a + 1), .int .i64 5] 2 (by simp) (by unfold maxLen; omega) (by simp)
  rw [show (w.alloc (.cells #[.int .i64 2, .int .i64 a, .int .i64 b, .int .i64 v] 25)).heap.size = w.heap.size + 1 by simp] at o
  exact ⟨_, _, rfl, by omega, owns_cells o, fun b' o' h => (by simp only [Option.some.injEq, Addr.mk.injEq] at h; omega), ((Below.refl _ _).alloc (Nat.le_refl _) _).alloc (by simp) _⟩

set_option linter.unusedVariables false in
set_option maxHeartbeats 1000000 in
theorem l10Needs_3 (a b v : Int) (ha : 0 ≤ a ∧ a ≤ 99) (w : World) :
    Calls Try.prog 18 #[.agg #[.int .i64 3, .int .i64 a, .int .i64 b, .int .i64 v]] w fun e w' => L10E 3 a w e w' := by
  unfold L10E
  rw [show Ch.needL 3 a = [⟨0, 2⟩, ⟨a + 1, 5⟩] from rfl]
  obtain ⟨h1, h2⟩ := ha
  go_enter Try.func18, Try.ntmps18
  go_wp2
  go_ret
  have o := World.ownsRow_lit (base := w.heap.size) (e := 43) (size := 2) (w.alloc (.cells #[.int .i64 3, .int .i64 a, .int .i64 b, .int .i64 v] 25)) #[.int .i64 0, .int .i64 2, .int .i64 (a + 1), .int .i64 5] 2 (by simp) (by unfold maxLen; omega) (by simp)
  rw [show (w.alloc (.cells #[.int .i64 3, .int .i64 a, .int .i64 b, .int .i64 v] 25)).heap.size = w.heap.size + 1 by simp] at o
  exact ⟨_, _, rfl, by omega, owns_cells o, fun b' o' h => (by simp only [Option.some.injEq, Addr.mk.injEq] at h; omega), ((Below.refl _ _).alloc (Nat.le_refl _) _).alloc (by simp) _⟩

set_option linter.unusedVariables false in
set_option maxHeartbeats 1000000 in
theorem l10Needs_4 (a b v : Int) (ha : 0 ≤ a ∧ a ≤ 99) (w : World) :
    Calls Try.prog 18 #[.agg #[.int .i64 4, .int .i64 a, .int .i64 b, .int .i64 v]] w fun e w' => L10E 4 a w e w' := by
  unfold L10E
  rw [show Ch.needL 4 a = [⟨0, 3⟩] from rfl]
  obtain ⟨h1, h2⟩ := ha
  go_enter Try.func18, Try.ntmps18
  go_wp2
  go_ret
  have o := World.ownsRow_lit (base := w.heap.size) (e := 43) (size := 2) (w.alloc (.cells #[.int .i64 4, .int .i64 a, .int .i64 b, .int .i64 v] 25)) #[.int .i64 0, .int .i64 3] 1 (by simp) (by unfold maxLen; omega) (by simp)
  rw [show (w.alloc (.cells #[.int .i64 4, .int .i64 a, .int .i64 b, .int .i64 v] 25)).heap.size = w.heap.size + 1 by simp] at o
  exact ⟨_, _, rfl, by omega, owns_cells o, fun b' o' h => (by simp only [Option.some.injEq, Addr.mk.injEq] at h; omega), ((Below.refl _ _).alloc (Nat.le_refl _) _).alloc (by simp) _⟩

set_option linter.unusedVariables false in
set_option maxHeartbeats 1000000 in
theorem l10Needs_5 (a b v : Int) (ha : 0 ≤ a ∧ a ≤ 99) (w : World) :
    Calls Try.prog 18 #[.agg #[.int .i64 5, .int .i64 a, .int .i64 b, .int .i64 v]] w fun e w' => L10E 5 a w e w' := by
  unfold L10E
  rw [show Ch.needL 5 a = [⟨0, 3⟩] from rfl]
  obtain ⟨h1, h2⟩ := ha
  go_enter Try.func18, Try.ntmps18
  go_wp2
  go_ret
  have o := World.ownsRow_lit (base := w.heap.size) (e := 43) (size := 2) (w.alloc (.cells #[.int .i64 5, .int .i64 a, .int .i64 b, .int .i64 v] 25)) #[.int .i64 0, .int .i64 3] 1 (by simp) (by unfold maxLen; omega) (by simp)
  rw [show (w.alloc (.cells #[.int .i64 5, .int .i64 a, .int .i64 b, .int .i64 v] 25)).heap.size = w.heap.size + 1 by simp] at o
  exact ⟨_, _, rfl, by omega, owns_cells o, fun b' o' h => (by simp only [Option.some.injEq, Addr.mk.injEq] at h; omega), ((Below.refl _ _).alloc (Nat.le_refl _) _).alloc (by simp) _⟩

set_option linter.unusedVariables false in
set_option maxHeartbeats 1000000 in
theorem l10Needs_6 (a b v : Int) (ha : 0 ≤ a ∧ a ≤ 99) (w : World) :
    Calls Try.prog 18 #[.agg #[.int .i64 6, .int .i64 a, .int .i64 b, .int .i64 v]] w fun e w' => L10E 6 a w e w' := by
  unfold L10E
  rw [show Ch.needL 6 a = [] from rfl]
  obtain ⟨h1, h2⟩ := ha
  go_enter Try.func18, Try.ntmps18
  go_wp2
  go_ret
  exact ⟨none, 0, rfl, by omega, ⟨rfl, fun h => by omega⟩, fun _ _ h => (by cases h), (Below.refl _ _).alloc (Nat.le_refl _) _⟩

set_option linter.unusedVariables false in
set_option maxHeartbeats 1000000 in
theorem l10Needs_7 (a b v : Int) (ha : 0 ≤ a ∧ a ≤ 99) (w : World) :
    Calls Try.prog 18 #[.agg #[.int .i64 7, .int .i64 a, .int .i64 b, .int .i64 v]] w fun e w' => L10E 7 a w e w' := by
  unfold L10E
  rw [show Ch.needL 7 a = [] from rfl]
  obtain ⟨h1, h2⟩ := ha
  go_enter Try.func18, Try.ntmps18
  go_wp2
  go_ret
  exact ⟨none, 0, rfl, by omega, ⟨rfl, fun h => by omega⟩, fun _ _ h => (by cases h), (Below.refl _ _).alloc (Nat.le_refl _) _⟩

set_option linter.unusedVariables false in
set_option maxHeartbeats 1000000 in
theorem l10Needs_8 (a b v : Int) (ha : 0 ≤ a ∧ a ≤ 99) (w : World) :
    Calls Try.prog 18 #[.agg #[.int .i64 8, .int .i64 a, .int .i64 b, .int .i64 v]] w fun e w' => L10E 8 a w e w' := by
  unfold L10E
  rw [show Ch.needL 8 a = [⟨0, 2⟩, ⟨a + 1, 5⟩] from rfl]
  obtain ⟨h1, h2⟩ := ha
  go_enter Try.func18, Try.ntmps18
  go_wp2
  go_ret
  have o := World.ownsRow_lit (base := w.heap.size) (e := 43) (size := 2) (w.alloc (.cells #[.int .i64 8, .int .i64 a, .int .i64 b, .int .i64 v] 25)) #[.int .i64 0, .int .i64 2, .int .i64 (a + 1), .int .i64 5] 2 (by simp) (by unfold maxLen; omega) (by simp)
  rw [show (w.alloc (.cells #[.int .i64 8, .int .i64 a, .int .i64 b, .int .i64 v] 25)).heap.size = w.heap.size + 1 by simp] at o
  exact ⟨_, _, rfl, by omega, owns_cells o, fun b' o' h => (by simp only [Option.some.injEq, Addr.mk.injEq] at h; omega), ((Below.refl _ _).alloc (Nat.le_refl _) _).alloc (by simp) _⟩

set_option linter.unusedVariables false in
set_option maxHeartbeats 1000000 in
theorem l10Needs_9 (a b v : Int) (ha : 0 ≤ a ∧ a ≤ 99) (w : World) :
    Calls Try.prog 18 #[.agg #[.int .i64 9, .int .i64 a, .int .i64 b, .int .i64 v]] w fun e w' => L10E 9 a w e w' := by
  unfold L10E
  rw [show Ch.needL 9 a = [⟨0, 1⟩] from rfl]
  obtain ⟨h1, h2⟩ := ha
  go_enter Try.func18, Try.ntmps18
  go_wp2
  go_ret
  have o := World.ownsRow_lit (base := w.heap.size) (e := 43) (size := 2) (w.alloc (.cells #[.int .i64 9, .int .i64 a, .int .i64 b, .int .i64 v] 25)) #[.int .i64 0, .int .i64 1] 1 (by simp) (by unfold maxLen; omega) (by simp)
  rw [show (w.alloc (.cells #[.int .i64 9, .int .i64 a, .int .i64 b, .int .i64 v] 25)).heap.size = w.heap.size + 1 by simp] at o
  exact ⟨_, _, rfl, by omega, owns_cells o, fun b' o' h => (by simp only [Option.some.injEq, Addr.mk.injEq] at h; omega), ((Below.refl _ _).alloc (Nat.le_refl _) _).alloc (by simp) _⟩

set_option linter.unusedVariables false in
set_option maxHeartbeats 1000000 in
theorem l10Needs_10 (a b v : Int) (ha : 0 ≤ a ∧ a ≤ 99) (w : World) :
    Calls Try.prog 18 #[.agg #[.int .i64 10, .int .i64 a, .int .i64 b, .int .i64 v]] w fun e w' => L10E 10 a w e w' := by
  unfold L10E
  rw [show Ch.needL 10 a = [⟨0, 3⟩] from rfl]
  obtain ⟨h1, h2⟩ := ha
  go_enter Try.func18, Try.ntmps18
  go_wp2
  go_ret
  have o := World.ownsRow_lit (base := w.heap.size) (e := 43) (size := 2) (w.alloc (.cells #[.int .i64 10, .int .i64 a, .int .i64 b, .int .i64 v] 25)) #[.int .i64 0, .int .i64 3] 1 (by simp) (by unfold maxLen; omega) (by simp)
  rw [show (w.alloc (.cells #[.int .i64 10, .int .i64 a, .int .i64 b, .int .i64 v] 25)).heap.size = w.heap.size + 1 by simp] at o
  exact ⟨_, _, rfl, by omega, owns_cells o, fun b' o' h => (by simp only [Option.some.injEq, Addr.mk.injEq] at h; omega), ((Below.refl _ _).alloc (Nat.le_refl _) _).alloc (by simp) _⟩

theorem l10Needs_any (k a b v : Int) (ha : 0 ≤ a ∧ a ≤ 99) (hk : k = 1 ∨ k = 2 ∨ k = 3 ∨ k = 4 ∨ k = 5 ∨ k = 6 ∨ k = 7 ∨ k = 8 ∨ k = 9 ∨ k = 10) (w : World) :
    Calls Try.prog 18 #[.agg #[.int .i64 k, .int .i64 a, .int .i64 b, .int .i64 v]] w fun e w' => L10E k a w e w' := by
  rcases hk with rfl | rfl | rfl | rfl | rfl | rfl | rfl | rfl | rfl | rfl
  · exact l10Needs_1 a b v ha w
  · exact l10Needs_2 a b v ha w
  · exact l10Needs_3 a b v ha w
  · exact l10Needs_4 a b v ha w
  · exact l10Needs_5 a b v ha w
  · exact l10Needs_6 a b v ha w
  · exact l10Needs_7 a b v ha w
  · exact l10Needs_8 a b v ha w
  · exact l10Needs_9 a b v ha w
  · exact l10Needs_10 a b v ha w

theorem CellsAt.setOther {w : World} {a : Option Addr} {m : Nat} {xs : List Value} {p o : Nat} {u : Value} (h : CellsAt w a m xs) (hb : ∀ b off, a = some ⟨b, off, none⟩ → b ≠ p) : CellsAt (w.setCell ⟨p, o, none⟩ u) a m xs := by
  refine ⟨h.1, fun hm => ?_⟩
  obtain ⟨b, off, ha, hc⟩ := h.2 hm
  exact ⟨b, off, ha, fun i hi => (World.cell?_setCell_other _ _ _ _ (fun e => hb b off ha (congrArg Addr.block e).symm)).trans (hc i hi)⟩

set_option maxHeartbeats 1000000 in
theorem specNeeds_bad (k a b v c : Int) (hc : Ch.opFault k a b v = c) (h0 : c ≠ 0) (w : World) :
    Calls Try.prog 8 #[.agg #[.int .i64 k, .int .i64 a, .int .i64 b, .int .i64 v]] w fun e w' => NeedsE k a b v w e w' := by
  unfold NeedsE
  rw [Ch.needsR_bad hc h0]
  have hF := fun W => specOp_any k a b v W
  rw [hc] at hF
  have hn : (c != 0) = true := by simpa using h0
  clear hc h0
  go_enter Try.func8, Try.ntmps8
  go_wp2_with fail
  refine (hF _).mono ?_
  rintro e w1 ⟨rfl, b1⟩
  have b1' := (((Below.refl _ w).alloc (Nat.le_refl _) _).alloc (by simp) _).trans (b1.mono (by simp; omega))
  obtain ⟨cA, fA⟩ := bcell b1
  have y0 := cA (w.heap.size + 1) 0 (by simp)
  have y1 := cA (w.heap.size + 1) 1 (by simp)
  have fy0 := fA (w.heap.size + 1) 0 (by simp)
  have fy1 := fA (w.heap.size + 1) 1 (by simp)
  clear cA fA b1 hF
  simp [go_sem] at y0 y1 fy0 fy1
  go_wp2
  refine bodyPost_ret (v := .agg #[.int .i64 c, .slice none 0 0]) (by simp [results, Try.results8, go_sem, y0, y1]) rfl ⟨none, 0, 0, rfl, by omega, World.ownsRow_nil _ _ _ _, ?_⟩
  exact (b1'.setCell (p := ⟨w.heap.size + 1, 0, none⟩) (by show w.heap.size ≤ w.heap.size + 1; omega) _).setCell (p := ⟨w.heap.size + 1, 1, none⟩) (by show w.heap.size ≤ w.heap.size + 1; omega) _

set_option linter.unusedSimpArgs false in
set_option maxRecDepth 20000 in
set_option maxHeartbeats 4000000 in
theorem specNeeds_ok (k a b v : Int) (h0 : Ch.opFault k a b v = 0) (w : World) :
    Calls Try.prog 8 #[.agg #[.int .i64 k, .int .i64 a, .int .i64 b, .int .i64 v]] w fun e w' => NeedsE k a b v w e w' := by
  unfold NeedsE
  rw [Ch.needsR_ok h0]
  have hF := fun W => specOp_any k a b v W
  rw [h0] at hF
  have hN := fun W => l10Needs_any k a b v (Ch.op_kind h0).2 (Ch.op_kind h0).1 W
  unfold L10E at hN
  clear h0
  obtain ⟨i0, hi0, hz0, hz1, hz2⟩ := info_parts Try.info45
  generalize Ch.needL k a = ns at *
  generalize hkk : k = kd at *
  clear hkk
  go_enter Try.func8, Try.ntmps8
  go_wp2_with fail
  refine (hF _).mono ?_
  rintro e w1 ⟨rfl, b1⟩
  have b1' := (((Below.refl _ w).alloc (Nat.le_refl _) _).alloc (by simp) _).trans (b1.mono (by simp; omega))
  have hR := heap_below b1 (heap_alloc_new (w.alloc (.cells #[.int .i64 kd, .int .i64 a, .int .i64 b, .int .i64 v] 25)) (.cells #[.int .i64 0, .slice none 0 0] 30))
  rw [show (w.alloc (.cells #[.int .i64 kd, .int .i64 a, .int .i64 b, .int .i64 v] 25)).heap.size = w.heap.size + 1 by simp] at hR
  obtain ⟨cA, fA⟩ := bcell b1
  have x0 := cA w.heap.size 0 (by simp; omega)
  have x1 := cA w.heap.size 1 (by simp; omega)
  have x2 := cA w.heap.size 2 (by simp; omega)
  have x3 := cA w.heap.size 3 (by simp; omega)
  clear cA fA b1 hF
  simp [go_sem] at x0 x1 x2 x3
  have lx := lt_of_cell x0
  go_wp2_with fail
  refine (hN _).mono ?_
  rintro e w2 ⟨g, n, rfl, hn, hC, hgl, b2⟩
  have lz := (Array.getElem?_eq_some_iff.1 hR).1
  have hX := heap_below b2 (heap_alloc_new w1 (.cells #[.int .i64 0, .slice none 0 0] 30))
  replace hR := heap_below b2 ((heap_old' lz).trans hR)
  have b2' : Below w.heap.size w w2 := (b1'.alloc b1'.size _).trans (b2.mono (by have := b1'.size; simp; omega))
  have l12 : w1.heap.size < w2.heap.size := (Array.getElem?_eq_some_iff.1 hX).1
  have HL : Hid (n = ns.length) := by have := hC.1; rw [hcells_len] at this; show _ = _; omega
  replace hgl : ∀ b' o', g = some ⟨b', o', none⟩ → b' ≠ w1.heap.size ∧ (0 < n → b' < w2.heap.size) := fun b' o' h => by
    have h1 := hgl b' o' h
    simp at h1
    refine ⟨by omega, fun hp => ?_⟩
    obtain ⟨b3, o3, e3, hc3⟩ := hC.2 (by omega)
    rw [h] at e3
    simp only [Option.some.injEq, Addr.mk.injEq, and_true] at e3
    rw [e3.1]
    have h4 : (hcells ns)[0]? ≠ none := by
      have := hC.1
      simp only [ne_eq, List.getElem?_eq_none_iff]
      omega
    cases h5 : (hcells ns)[0]? with
    | none => exact absurd h5 h4
    | some u => exact lt_of_cell ((hc3 0 (by omega)).trans h5)
  clear hN b2 x0 x1 x2 x3 lx b1'
  go_wp2
  go_loopw [6] (fun i wr => ∃ (k : Nat) (a' : Option Addr) (c' : Nat), k ≤ n ∧ i = .int .i64 k ∧ wr.heap[w.heap.size + 1]? = some (.cells #[.int .i64 0, .slice none 0 0] 30 (0, 0)) ∧ wr.heap[w1.heap.size]? = some (.cells #[.int .i64 0, .slice a' k c'] 30 (0, 0)) ∧ wr.ownsRow w2.heap.size 45 2 (.slice a' k c') k (hcells (ns.take k)) ∧ CellsAt wr g (n * 2) (hcells ns) ∧ w2.heap.size ≤ wr.heap.size ∧ Below w.heap.size w wr) (fun i _ => n - (intOf i).toNat)
  case atStart => exact ⟨0, none, 0, Nat.zero_le _, rfl, hR, hX, World.ownsRow_nil _ _ _ _, hC, Nat.le_refl _, b2'⟩
  case round =>
    clear hR hX hC
    obtain ⟨k, a', c', hk, rfl, hR, hX, own, hC, hsz, hB⟩ := hrel
    obtain ⟨x0, x1, f0, f1⟩ := row2 hR
    obtain ⟨y0, y1, g0, g1⟩ := row2 hX
    have lr := (Array.getElem?_eq_some_iff.1 hR).1
    have ly := (Array.getElem?_eq_some_iff.1 hX).1
    by_cases hlt : k < n
    · have hkl : k < ns.length := by have := HL.out; omega
      have HY : Hid (ns.take (k + 1) = ns.take k ++ [ns.getD k Ch.Hold.zero]) := by show _ = _; rw [List.take_add_one]; simp [List.getD, hkl]
      obtain ⟨gb, off, hgo, q0, q1⟩ := hC.hold hlt
      have hgb := (hgl gb off hgo).2 (by omega)
      have hgw := (hgl gb off hgo).1
      have hbl := lt_of_cell q0
      generalize ns.getD k Ch.Hold.zero = r at *
      obtain ⟨rt, rm⟩ := r
      simp only at q0 q1 HY
      subst hgo
      have hsum : k + 1 ≤ 4194304 := by omega
      have kQ : Below wr.drew.heap.size wr.drew (wr.drew.alloc (.cells #[.int .i64 rt, .int .i64 rm] 45)) := (Below.refl _ _).alloc (Nat.le_refl _) _
      have kD : Below wr.heap.size wr (wr.drew.alloc (.cells #[.int .i64 rt, .int .i64 rm] 45)) := ((Below.refl _ _).drew).alloc (Nat.le_refl _) _
      have own3 := owns_below own kD
      have hX3 := heap_below kD hX
      have hR3 := heap_below kD hR
      have hC3 := new_hold wr.drew rt rm 45
      have hb3 : w2.heap.size ≤ (wr.drew.alloc (.cells #[.int .i64 rt, .int .i64 rm] 45)).heap.size := by simp; omega
      have hnb := own_ne own3 (show gb < w2.heap.size by omega)
      go_wp2_with fail
      refine wp_region_noPanic ?_
      refine wp_region_held_drew (S := fun W' => W'.cell? ⟨gb, off + k * 2, none⟩ = some (.int .i64 rt) ∧ W'.cell? ⟨gb, off + k * 2 + 1, none⟩ = some (.int .i64 rm)) (by kernel_rfl) (⟨q0, q1⟩) (fun hH => ?_)
      refine hTake (i := 0) (v := ?_) rfl (by kernel_rfl) (by kernel_rfl) (by kernel_rfl) (by rfl) ?_ hH ?_
      rotate_left
      · intro W hW; (try dsimp only at hW); go_simp <;> with_reducible rfl
      simp only [Act.put, List.setIfInBounds_toArray, List.set_cons_zero, List.set_cons_succ]
      refine hTake (i := 2) (v := ?_) rfl (by kernel_rfl) (by kernel_rfl) (by kernel_rfl) (by rfl) ?_ hH ?_
      rotate_left
      · intro W hW; (try dsimp only at hW); go_simp <;> with_reducible rfl
      simp only [Act.put, List.setIfInBounds_toArray, List.set_cons_zero, List.set_cons_succ]
      refine hTake (i := 3) (v := ?_) rfl (by kernel_rfl) (by kernel_rfl) (by kernel_rfl) (by rfl) ?_ hH ?_
      rotate_left
      · intro W hW; (try dsimp only at hW); go_simp <;> with_reducible rfl
      simp only [Act.put, List.setIfInBounds_toArray, List.set_cons_zero, List.set_cons_succ]
      refine hTake (i := 4) (v := ?_) rfl (by kernel_rfl) (by kernel_rfl) (by kernel_rfl) (by rfl) ?_ hH ?_
      rotate_left
      · intro W hW; (try dsimp only at hW); go_simp <;> with_reducible rfl
      simp only [Act.put, List.setIfInBounds_toArray, List.set_cons_zero, List.set_cons_succ]
      refine hTake (i := 5) (v := ?_) rfl (by kernel_rfl) (by kernel_rfl) (by kernel_rfl) (by rfl) ?_ hH ?_
      rotate_left
      · intro W hW; (try dsimp only at hW); go_simp <;> with_reducible rfl
      simp only [Act.put, List.setIfInBounds_toArray, List.set_cons_zero, List.set_cons_succ]
      refine hTake (i := 6) (v := ?_) rfl (by kernel_rfl) (by kernel_rfl) (by kernel_rfl) (by rfl) ?_ hH ?_
      rotate_left
      · intro W hW; (try dsimp only at hW); go_simp <;> with_reducible rfl
      simp only [Act.put, List.setIfInBounds_toArray, List.set_cons_zero, List.set_cons_succ]
      refine hTake (i := 7) (v := ?_) rfl (by kernel_rfl) (by kernel_rfl) (by kernel_rfl) (by rfl) ?_ hH ?_
      rotate_left
      · intro W hW; (try dsimp only at hW); go_simp <;> with_reducible rfl
      simp only [Act.put, List.setIfInBounds_toArray, List.set_cons_zero, List.set_cons_succ]
      refine hTake (i := 8) (v := ?_) rfl (by kernel_rfl) (by kernel_rfl) (by kernel_rfl) (by rfl) ?_ hH ?_
      rotate_left
      · intro W hW; (try dsimp only at hW); go_simp <;> with_reducible rfl
      simp only [Act.put, List.setIfInBounds_toArray, List.set_cons_zero, List.set_cons_succ]
      refine hTake (i := 9) (v := ?_) rfl (by kernel_rfl) (by kernel_rfl) (by kernel_rfl) (by rfl) ?_ hH ?_
      rotate_left
      · intro W hW; (try dsimp only at hW); go_simp <;> with_reducible rfl
      simp only [Act.put, List.setIfInBounds_toArray, List.set_cons_zero, List.set_cons_succ]
      refine hTake (i := 10) (v := ?_) rfl (by kernel_rfl) (by kernel_rfl) (by kernel_rfl) (by rfl) ?_ hH ?_
      rotate_left
      · intro W hW; (try dsimp only at hW); go_simp <;> with_reducible rfl
      simp only [Act.put, List.setIfInBounds_toArray, List.set_cons_zero, List.set_cons_succ]
      refine hTake (i := 11) (v := ?_) rfl (by kernel_rfl) (by kernel_rfl) (by kernel_rfl) (by rfl) ?_ hH ?_
      rotate_left
      · intro W hW; (try dsimp only at hW); go_simp <;> with_reducible rfl
      simp only [Act.put, List.setIfInBounds_toArray, List.set_cons_zero, List.set_cons_succ]
      refine hTake (i := 12) (v := ?_) rfl (by kernel_rfl) (by kernel_rfl) (by kernel_rfl) (by rfl) ?_ hH ?_
      rotate_left
      · intro W hW; (try dsimp only at hW); go_simp <;> with_reducible rfl
      simp only [Act.put, List.setIfInBounds_toArray, List.set_cons_zero, List.set_cons_succ]
      refine wpAnyH_ready (rs := [1, 13]) (by kernel_rfl) (by simp) ?_
      refine AllReadyH.cons rfl (fun K hK => ?_) (AllReadyH.cons rfl (fun K hK => ?_) AllReadyH.nil)
      · have ly1 : wr.drew.cell? ⟨w1.heap.size, 1, none⟩ = some (.slice a' k c') := y1
        go_simp
        refine hK.out _ _ hH (fun hH => ?_)
        clear hK K
        refine wpAnyH_ready (rs := [13]) (by kernel_rfl) (by simp) ?_
        refine AllReadyH.cons rfl (fun K hK => ?_) AllReadyH.nil
        go_simp
        refine hK.out _ _ ⟨keep_cell kQ hH.1, keep_cell kQ hH.2⟩ (fun hH => ?_)
        clear hK K
        refine wpAnyH_ready (rs := [14]) (by kernel_rfl) (by simp) ?_
        refine AllReadyH.cons rfl (fun K hK => ?_) AllReadyH.nil
        refine step_appX Try.underlying28 Try.underlying28 hi0 hz0 hz1 hz2 rfl (by omega) (by omega) (.tmp 23) (.tmp 35) rfl rfl w2.heap.size (.slice a' k c') k (hcells (ns.take k)) _ 1 1 (hcells [⟨rt, rm⟩]) rfl rfl own3 hC3 (hcells_one' _) hsum hb3 ?_
        intro a5 c5 w5 own5 gr5 at5
        have hX5 := gr_heapN gr5 hX3 (own_ne own3 (by omega))
        have hR5 := gr_heapN gr5 hR3 (own_ne own3 (by omega))
        obtain ⟨v0, v1, e0, e1⟩ := row2 hX5
        have lv := lt_of_cell v0
        refine hK.out _ _ ⟨grown_cell gr5 hH.1 hnb, grown_cell gr5 hH.2 hnb⟩ (fun hH => ?_)
        clear hK K
        simp only [Act.put, List.setIfInBounds_toArray, List.set_cons_zero, List.set_cons_succ]
        refine hTake (i := 15) (v := ?_) rfl (by kernel_rfl) (by kernel_rfl) (by kernel_rfl) (by rfl) ?_ hH ?_
        rotate_left
        · intro W hW; (try dsimp only at hW); go_simp <;> with_reducible rfl
        simp only [Act.put, List.setIfInBounds_toArray, List.set_cons_zero, List.set_cons_succ]
        refine wpAnyH_ready (rs := [16]) (by kernel_rfl) (by simp) ?_
        refine AllReadyH.cons rfl (fun K hK => ?_) AllReadyH.nil
        go_simp
        refine hK.out _ _ ⟨(World.cell?_setCell_other _ _ _ _ (by first | (simp; done) | (simp; omega))).trans hH.1, (World.cell?_setCell_other _ _ _ _ (by first | (simp; done) | (simp; omega))).trans hH.2⟩ (fun hH => ?_)
        clear hK K
        refine wpAnyH_done (by kernel_rfl) ?_ _
        refine NoPanic.normal ?_
        go_wp2
        go_roundw
        case rel =>
          rw [← hcells_append, ← HY.out] at own5
          have b3 := (hB.alloc hB.size (.cells #[.int .i64 rt, .int .i64 rm] 45)).drew
          have b5 := b3.grown gr5 b3.size (fun g hg => by have := (owns_lt own3 g hg).1; omega)
          refine ⟨k + 1, a5, c5, by omega, by go_num, ?_, ?_, ?_, ?_, ?_, b5.setCell (p := ⟨w1.heap.size, 1, none⟩) (by show w.heap.size ≤ w1.heap.size; omega) _⟩
          · exact (Below.heap_setCell _ _ _ _ (by show w.heap.size + 1 ≠ w1.heap.size; omega)).trans hR5
          · have := Joins.block_setCell (i := 1) hX5 (.slice a5 (k + 1) c5)
            simpa using this
          · exact ownsRow_setCell_below own5 (by show w1.heap.size < w2.heap.size; omega) _
          · refine CellsAt.setOther ?_ (fun b' o' hb => ?_)
            · exact cells_grown (hC.below kD) gr5 (fun b' o' hb => own_ne own3 (by have := hgl b' o' hb; omega))
            · have := (hgl b' o' hb).1; show b' ≠ w1.heap.size; omega
          · have := gr5.size; simp at this ⊢; omega
        case measure => simp [intOf]; omega
      · go_simp
        refine hK.out _ _ ⟨keep_cell kQ hH.1, keep_cell kQ hH.2⟩ (fun hH => ?_)
        clear hK K
        refine wpAnyH_ready (rs := [1]) (by kernel_rfl) (by simp) ?_
        refine AllReadyH.cons rfl (fun K hK => ?_) AllReadyH.nil
        have ly1 := keep_cell kQ (show wr.drew.cell? ⟨w1.heap.size, 1, none⟩ = some (.slice a' k c') from y1)
        go_simp
        refine hK.out _ _ hH (fun hH => ?_)
        clear hK K
        refine wpAnyH_ready (rs := [14]) (by kernel_rfl) (by simp) ?_
        refine AllReadyH.cons rfl (fun K hK => ?_) AllReadyH.nil
        refine step_appX Try.underlying28 Try.underlying28 hi0 hz0 hz1 hz2 rfl (by omega) (by omega) (.tmp 23) (.tmp 35) rfl rfl w2.heap.size (.slice a' k c') k (hcells (ns.take k)) _ 1 1 (hcells [⟨rt, rm⟩]) rfl rfl own3 hC3 (hcells_one' _) hsum hb3 ?_
        intro a5 c5 w5 own5 gr5 at5
        have hX5 := gr_heapN gr5 hX3 (own_ne own3 (by omega))
        have hR5 := gr_heapN gr5 hR3 (own_ne own3 (by omega))
        obtain ⟨v0, v1, e0, e1⟩ := row2 hX5
        have lv := lt_of_cell v0
        refine hK.out _ _ ⟨grown_cell gr5 hH.1 hnb, grown_cell gr5 hH.2 hnb⟩ (fun hH => ?_)
        clear hK K
        simp only [Act.put, List.setIfInBounds_toArray, List.set_cons_zero, List.set_cons_succ]
        refine hTake (i := 15) (v := ?_) rfl (by kernel_rfl) (by kernel_rfl) (by kernel_rfl) (by rfl) ?_ hH ?_
        rotate_left
        · intro W hW; (try dsimp only at hW); go_simp <;> with_reducible rfl
        simp only [Act.put, List.setIfInBounds_toArray, List.set_cons_zero, List.set_cons_succ]
        refine wpAnyH_ready (rs := [16]) (by kernel_rfl) (by simp) ?_
        refine AllReadyH.cons rfl (fun K hK => ?_) AllReadyH.nil
        go_simp
        refine hK.out _ _ ⟨(World.cell?_setCell_other _ _ _ _ (by first | (simp; done) | (simp; omega))).trans hH.1, (World.cell?_setCell_other _ _ _ _ (by first | (simp; done) | (simp; omega))).trans hH.2⟩ (fun hH => ?_)
        clear hK K
        refine wpAnyH_done (by kernel_rfl) ?_ _
        refine NoPanic.normal ?_
        go_wp2
        go_roundw
        case rel =>
          rw [← hcells_append, ← HY.out] at own5
          have b3 := (hB.alloc hB.size (.cells #[.int .i64 rt, .int .i64 rm] 45)).drew
          have b5 := b3.grown gr5 b3.size (fun g hg => by have := (owns_lt own3 g hg).1; omega)
          refine ⟨k + 1, a5, c5, by omega, by go_num, ?_, ?_, ?_, ?_, ?_, b5.setCell (p := ⟨w1.heap.size, 1, none⟩) (by show w.heap.size ≤ w1.heap.size; omega) _⟩
          · exact (Below.heap_setCell _ _ _ _ (by show w.heap.size + 1 ≠ w1.heap.size; omega)).trans hR5
          · have := Joins.block_setCell (i := 1) hX5 (.slice a5 (k + 1) c5)
            simpa using this
          · exact ownsRow_setCell_below own5 (by show w1.heap.size < w2.heap.size; omega) _
          · refine CellsAt.setOther ?_ (fun b' o' hb => ?_)
            · exact cells_grown (hC.below kD) gr5 (fun b' o' hb => own_ne own3 (by have := hgl b' o' hb; omega))
            · have := (hgl b' o' hb).1; show b' ≠ w1.heap.size; omega
          · have := gr5.size; simp at this ⊢; omega
        case measure => simp [intOf]; omega
    · obtain rfl : k = n := by omega
      have HWF : Hid (ns.take k = ns) := by have := HL.out; show _ = _; rw [this]; exact List.take_length
      rw [HWF.out] at own
      go_wp2
      refine bodyPost_ret (v := .agg #[.int .i64 0, .slice a' k c']) (by simp [results, Try.results8, go_sem, x0, x1]) rfl ⟨a', k, c', rfl, by omega, ?_, ?_⟩
      · refine owns_base (base := w2.heap.size) (ownsRow_setCell_below (ownsRow_setCell_below own ?_ _) ?_ _) (by omega)
        · show w.heap.size + 1 < w2.heap.size; omega
        · show w.heap.size + 1 < w2.heap.size; omega
      · exact (hB.setCell (p := ⟨w.heap.size + 1, 0, none⟩) (by show w.heap.size ≤ w.heap.size + 1; omega) _).setCell (p := ⟨w.heap.size + 1, 1, none⟩) (by show w.heap.size ≤ w.heap.size + 1; omega) _

theorem specNeeds_any (k a b v : Int) (w : World) :
    Calls Try.prog 8 #[.agg #[.int .i64 k, .int .i64 a, .int .i64 b, .int .i64 v]] w fun e w' => NeedsE k a b v w e w' := by
  by_cases h0 : Ch.opFault k a b v = 0
  · exact specNeeds_ok k a b v h0 w
  · exact specNeeds_bad k a b v _ rfl h0 w
end Go.Proofs.Ytnbhabifblahmaa
