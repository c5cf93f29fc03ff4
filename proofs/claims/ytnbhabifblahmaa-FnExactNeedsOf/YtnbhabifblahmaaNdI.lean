
/- NeedsOf of the program. -/
import Derived.Test.YtnbhabifblahmaaOpF
import Derived.Test.YtnbhabifblahmaaNdM
import Derived.Test.YtnbhabifblahmaaNdA
namespace Go.Proofs.Ytnbhabifblahmaa
open Go.RowKit

theorem needsKey_any (a wh pt : Int) (ha : 0 ≤ a ∧ a ≤ 99) (w : World) :
    Calls Try.prog 25 #[.int .i64 a, .int .i64 wh, .int .i64 pt] w fun e w' => ∃ g m, e = .returned (.slice g m m) ∧ m ≤ 2 ∧ w'.ownsRow w.heap.size 45 2 (.slice g m m) m (hcells [⟨0, wh⟩, ⟨a + 1, pt⟩]) ∧ Below w.heap.size w w' := by
  obtain ⟨h1, h2⟩ := ha
  go_enter Try.func25, Try.ntmps25
  go_wp2
  go_ret
  refine ⟨_, _, rfl, by omega, ?_, (Below.refl _ _).alloc (Nat.le_refl _) _⟩
  have o := World.ownsRow_lit (base := w.heap.size) (e := 45) (size := 2) w #[.int .i64 0, .int .i64 wh, .int .i64 (1 + a), .int .i64 pt] 2 (Nat.le_refl _) (by unfold maxLen; omega) (by simp)
  rw [show a + 1 = 1 + a by omega]
  exact o

set_option linter.unusedVariables false in
set_option maxHeartbeats 1000000 in
theorem needs_readKey (a : Int) (ha : 0 ≤ a ∧ a ≤ 99) (w : World) :
    Calls Try.prog 19 #[.iface 50 (.agg #[.int .i64 a])] w fun e w' => ∃ g m, e = .returned (.slice g m m) ∧ m ≤ 2 ∧ w'.ownsRow w.heap.size 45 2 (.slice g m m) m (hcells [⟨0, 1⟩, ⟨a + 1, 3⟩]) ∧ Below w.heap.size w w' := by
  have hta0 : ∀ W, (Instr.typeAssert (.iface 50 (.agg #[.int .i64 a])) 36 50 true).run Try.prog W = .ok (.tuple #[.agg #[.int .i64 a], .bool true]) W := fun W => by kernel_rfl
  go_enter Try.func19, Try.ntmps19
  go_wp2_with fail
  refine (needsKey_any a 1 3 ha _).mono ?_
  rintro e w1 ⟨g, m, rfl, hm, o1, b1⟩
  go_wp2
  go_ret
  exact ⟨_, _, rfl, hm, owns_base o1 (by simp), ((Below.refl _ w).alloc (Nat.le_refl _) _).trans (b1.mono (by simp))⟩

set_option linter.unusedVariables false in
set_option maxHeartbeats 1000000 in
theorem needs_setKey (a v : Int) (ha : 0 ≤ a ∧ a ≤ 99) (w : World) :
    Calls Try.prog 19 #[.iface 52 (.agg #[.int .i64 a, .int .i64 v])] w fun e w' => ∃ g m, e = .returned (.slice g m m) ∧ m ≤ 2 ∧ w'.ownsRow w.heap.size 45 2 (.slice g m m) m (hcells [⟨0, 2⟩, ⟨a + 1, 5⟩]) ∧ Below w.heap.size w w' := by
  have hta0 : ∀ W, (Instr.typeAssert (.iface 52 (.agg #[.int .i64 a, .int .i64 v])) 36 50 true).run Try.prog W = .ok (.tuple #[.agg #[.int .i64 0], .bool false]) W := fun W => by kernel_rfl
  have hta1 : ∀ W, (Instr.typeAssert (.iface 52 (.agg #[.int .i64 a, .int .i64 v])) 36 52 true).run Try.prog W = .ok (.tuple #[.agg #[.int .i64 a, .int .i64 v], .bool true]) W := fun W => by kernel_rfl
  go_enter Try.func19, Try.ntmps19
  go_wp2_with fail
  refine (needsKey_any a 2 5 ha _).mono ?_
  rintro e w1 ⟨g, m, rfl, hm, o1, b1⟩
  go_wp2
  go_ret
  exact ⟨_, _, rfl, hm, owns_base o1 (by simp), ((Below.refl _ w).alloc (Nat.le_refl _) _).trans (b1.mono (by simp))⟩

set_option linter.unusedVariables false in
set_option maxHeartbeats 1000000 in
theorem needs_emptyKey (a : Int) (ha : 0 ≤ a ∧ a ≤ 99) (w : World) :
    Calls Try.prog 19 #[.iface 53 (.agg #[.int .i64 a])] w fun e w' => ∃ g m, e = .returned (.slice g m m) ∧ m ≤ 2 ∧ w'.ownsRow w.heap.size 45 2 (.slice g m m) m (hcells [⟨0, 2⟩, ⟨a + 1, 5⟩]) ∧ Below w.heap.size w w' := by
  have hta0 : ∀ W, (Instr.typeAssert (.iface 53 (.agg #[.int .i64 a])) 36 50 true).run Try.prog W = .ok (.tuple #[.agg #[.int .i64 0], .bool false]) W := fun W => by kernel_rfl
  have hta1 : ∀ W, (Instr.typeAssert (.iface 53 (.agg #[.int .i64 a])) 36 52 true).run Try.prog W = .ok (.tuple #[.agg #[.int .i64 0, .int .i64 0], .bool false]) W := fun W => by kernel_rfl
  have hta2 : ∀ W, (Instr.typeAssert (.iface 53 (.agg #[.int .i64 a])) 36 53 true).run Try.prog W = .ok (.tuple #[.agg #[.int .i64 a], .bool true]) W := fun W => by kernel_rfl
  go_enter Try.func19, Try.ntmps19
  go_wp2_with fail
  refine (needsKey_any a 2 5 ha _).mono ?_
  rintro e w1 ⟨g, m, rfl, hm, o1, b1⟩
  go_wp2
  go_ret
  exact ⟨_, _, rfl, hm, owns_base o1 (by simp), ((Below.refl _ w).alloc (Nat.le_refl _) _).trans (b1.mono (by simp))⟩

set_option linter.unusedVariables false in
set_option maxHeartbeats 1000000 in
theorem needs_readRange (a b : Int) (w : World) :
    Calls Try.prog 19 #[.iface 55 (.agg #[.int .i64 a, .int .i64 b])] w fun e w' => ∃ g m, e = .returned (.slice g m m) ∧ m ≤ 2 ∧ w'.ownsRow w.heap.size 45 2 (.slice g m m) m (hcells [⟨0, 3⟩]) ∧ Below w.heap.size w w' := by
  have hta0 : ∀ W, (Instr.typeAssert (.iface 55 (.agg #[.int .i64 a, .int .i64 b])) 36 50 true).run Try.prog W = .ok (.tuple #[.agg #[.int .i64 0], .bool false]) W := fun W => by kernel_rfl
  have hta1 : ∀ W, (Instr.typeAssert (.iface 55 (.agg #[.int .i64 a, .int .i64 b])) 36 52 true).run Try.prog W = .ok (.tuple #[.agg #[.int .i64 0, .int .i64 0], .bool false]) W := fun W => by kernel_rfl
  have hta2 : ∀ W, (Instr.typeAssert (.iface 55 (.agg #[.int .i64 a, .int .i64 b])) 36 53 true).run Try.prog W = .ok (.tuple #[.agg #[.int .i64 0], .bool false]) W := fun W => by kernel_rfl
  have hta3 : ∀ W, (Instr.typeAssert (.iface 55 (.agg #[.int .i64 a, .int .i64 b])) 36 55 true).run Try.prog W = .ok (.tuple #[.agg #[.int .i64 a, .int .i64 b], .bool true]) W := fun W => by kernel_rfl
  have hta4 : ∀ W, (Instr.typeAssert (.iface 55 (.agg #[.int .i64 a, .int .i64 b])) 36 57 true).run Try.prog W = .ok (.tuple #[.agg #[.int .i64 0], .bool false]) W := fun W => by kernel_rfl
  have hta5 : ∀ W, (Instr.typeAssert (.iface 55 (.agg #[.int .i64 a, .int .i64 b])) 36 59 true).run Try.prog W = .ok (.tuple #[.agg #[], .bool false]) W := fun W => by kernel_rfl
  go_enter Try.func19, Try.ntmps19
  go_wp2
  go_ret
  refine ⟨_, _, rfl, by omega, ?_, ?_⟩
  · have o := World.ownsRow_lit (base := w.heap.size) (e := 45) (size := 2) w #[.int .i64 0, .int .i64 3] 1 (by first | exact Nat.le_refl _ | (simp; done) | (simp; omega)) (by unfold maxLen; omega) (by simp)
    exact o
  · repeat (first | with_reducible exact Below.refl _ _ | with_reducible refine Below.alloc ?_ (by first | exact Nat.le_refl _ | (simp; done) | (simp; omega)) _)

set_option linter.unusedVariables false in
set_option maxHeartbeats 1000000 in
theorem needs_readValue (v : Int) (w : World) :
    Calls Try.prog 19 #[.iface 57 (.agg #[.int .i64 v])] w fun e w' => ∃ g m, e = .returned (.slice g m m) ∧ m ≤ 2 ∧ w'.ownsRow w.heap.size 45 2 (.slice g m m) m (hcells [⟨0, 3⟩]) ∧ Below w.heap.size w w' := by
  have hta0 : ∀ W, (Instr.typeAssert (.iface 57 (.agg #[.int .i64 v])) 36 50 true).run Try.prog W = .ok (.tuple #[.agg #[.int .i64 0], .bool false]) W := fun W => by kernel_rfl
  have hta1 : ∀ W, (Instr.typeAssert (.iface 57 (.agg #[.int .i64 v])) 36 52 true).run Try.prog W = .ok (.tuple #[.agg #[.int .i64 0, .int .i64 0], .bool false]) W := fun W => by kernel_rfl
  have hta2 : ∀ W, (Instr.typeAssert (.iface 57 (.agg #[.int .i64 v])) 36 53 true).run Try.prog W = .ok (.tuple #[.agg #[.int .i64 0], .bool false]) W := fun W => by kernel_rfl
  have hta3 : ∀ W, (Instr.typeAssert (.iface 57 (.agg #[.int .i64 v])) 36 55 true).run Try.prog W = .ok (.tuple #[.agg #[.int .i64 0, .int .i64 0], .bool false]) W := fun W => by kernel_rfl
  have hta4 : ∀ W, (Instr.typeAssert (.iface 57 (.agg #[.int .i64 v])) 36 57 true).run Try.prog W = .ok (.tuple #[.agg #[.int .i64 v], .bool true]) W := fun W => by kernel_rfl
  have hta5 : ∀ W, (Instr.typeAssert (.iface 57 (.agg #[.int .i64 v])) 36 59 true).run Try.prog W = .ok (.tuple #[.agg #[], .bool false]) W := fun W => by kernel_rfl
  go_enter Try.func19, Try.ntmps19
  go_wp2
  go_ret
  refine ⟨_, _, rfl, by omega, ?_, ?_⟩
  · have o := World.ownsRow_lit (base := w.heap.size) (e := 45) (size := 2) w #[.int .i64 0, .int .i64 3] 1 (by first | exact Nat.le_refl _ | (simp; done) | (simp; omega)) (by unfold maxLen; omega) (by simp)
    exact o
  · repeat (first | with_reducible exact Below.refl _ _ | with_reducible refine Below.alloc ?_ (by first | exact Nat.le_refl _ | (simp; done) | (simp; omega)) _)

set_option linter.unusedVariables false in
set_option maxHeartbeats 1000000 in
theorem needs_readAll (w : World) :
    Calls Try.prog 19 #[.iface 59 (.agg #[])] w fun e w' => ∃ g m, e = .returned (.slice g m m) ∧ m ≤ 2 ∧ w'.ownsRow w.heap.size 45 2 (.slice g m m) m (hcells [⟨0, 3⟩]) ∧ Below w.heap.size w w' := by
  have hta0 : ∀ W, (Instr.typeAssert (.iface 59 (.agg #[])) 36 50 true).run Try.prog W = .ok (.tuple #[.agg #[.int .i64 0], .bool false]) W := fun W => by kernel_rfl
  have hta1 : ∀ W, (Instr.typeAssert (.iface 59 (.agg #[])) 36 52 true).run Try.prog W = .ok (.tuple #[.agg #[.int .i64 0, .int .i64 0], .bool false]) W := fun W => by kernel_rfl
  have hta2 : ∀ W, (Instr.typeAssert (.iface 59 (.agg #[])) 36 53 true).run Try.prog W = .ok (.tuple #[.agg #[.int .i64 0], .bool false]) W := fun W => by kernel_rfl
  have hta3 : ∀ W, (Instr.typeAssert (.iface 59 (.agg #[])) 36 55 true).run Try.prog W = .ok (.tuple #[.agg #[.int .i64 0, .int .i64 0], .bool false]) W := fun W => by kernel_rfl
  have hta4 : ∀ W, (Instr.typeAssert (.iface 59 (.agg #[])) 36 57 true).run Try.prog W = .ok (.tuple #[.agg #[.int .i64 0], .bool false]) W := fun W => by kernel_rfl
  have hta5 : ∀ W, (Instr.typeAssert (.iface 59 (.agg #[])) 36 59 true).run Try.prog W = .ok (.tuple #[.agg #[], .bool true]) W := fun W => by kernel_rfl
  go_enter Try.func19, Try.ntmps19
  go_wp2
  go_ret
  refine ⟨_, _, rfl, by omega, ?_, ?_⟩
  · have o := World.ownsRow_lit (base := w.heap.size) (e := 45) (size := 2) w #[.int .i64 0, .int .i64 3] 1 (by first | exact Nat.le_refl _ | (simp; done) | (simp; omega)) (by unfold maxLen; omega) (by simp)
    exact o
  · repeat (first | with_reducible exact Below.refl _ _ | with_reducible refine Below.alloc ?_ (by first | exact Nat.le_refl _ | (simp; done) | (simp; omega)) _)

set_option linter.unusedVariables false in
set_option maxHeartbeats 1000000 in
theorem needs_moveRows (w : World) :
    Calls Try.prog 19 #[.iface 60 (.agg #[])] w fun e w' => ∃ g m, e = .returned (.slice g m m) ∧ m ≤ 2 ∧ w'.ownsRow w.heap.size 45 2 (.slice g m m) m (hcells [⟨0, 1⟩]) ∧ Below w.heap.size w w' := by
  have hta0 : ∀ W, (Instr.typeAssert (.iface 60 (.agg #[])) 36 50 true).run Try.prog W = .ok (.tuple #[.agg #[.int .i64 0], .bool false]) W := fun W => by kernel_rfl
  have hta1 : ∀ W, (Instr.typeAssert (.iface 60 (.agg #[])) 36 52 true).run Try.prog W = .ok (.tuple #[.agg #[.int .i64 0, .int .i64 0], .bool false]) W := fun W => by kernel_rfl
  have hta2 : ∀ W, (Instr.typeAssert (.iface 60 (.agg #[])) 36 53 true).run Try.prog W = .ok (.tuple #[.agg #[.int .i64 0], .bool false]) W := fun W => by kernel_rfl
  have hta3 : ∀ W, (Instr.typeAssert (.iface 60 (.agg #[])) 36 55 true).run Try.prog W = .ok (.tuple #[.agg #[.int .i64 0, .int .i64 0], .bool false]) W := fun W => by kernel_rfl
  have hta4 : ∀ W, (Instr.typeAssert (.iface 60 (.agg #[])) 36 57 true).run Try.prog W = .ok (.tuple #[.agg #[.int .i64 0], .bool false]) W := fun W => by kernel_rfl
  have hta5 : ∀ W, (Instr.typeAssert (.iface 60 (.agg #[])) 36 59 true).run Try.prog W = .ok (.tuple #[.agg #[], .bool false]) W := fun W => by kernel_rfl
  have hta6 : ∀ W, (Instr.typeAssert (.iface 60 (.agg #[])) 36 60 true).run Try.prog W = .ok (.tuple #[.agg #[], .bool true]) W := fun W => by kernel_rfl
  go_enter Try.func19, Try.ntmps19
  go_wp2
  go_ret
  refine ⟨_, _, rfl, by omega, ?_, ?_⟩
  · have o := World.ownsRow_lit (base := w.heap.size) (e := 45) (size := 2) (w.alloc (.cells #[] 60)) #[.int .i64 0, .int .i64 1] 1 (by first | exact Nat.le_refl _ | (simp; done) | (simp; omega)) (by unfold maxLen; omega) (by simp)
    rw [show (w.alloc (.cells #[] 60)).heap.size = w.heap.size + 1 by simp] at o
    exact o
  · repeat (first | with_reducible exact Below.refl _ _ | with_reducible refine Below.alloc ?_ (by first | exact Nat.le_refl _ | (simp; done) | (simp; omega)) _)

set_option linter.unusedVariables false in
set_option maxHeartbeats 1000000 in
theorem needs_endTxn (w : World) :
    Calls Try.prog 19 #[.iface 61 (.agg #[])] w fun e w' => ∃ g m, e = .returned (.slice g m m) ∧ m ≤ 2 ∧ w'.ownsRow w.heap.size 45 2 (.slice g m m) m (hcells []) ∧ Below w.heap.size w w' := by
  have hta0 : ∀ W, (Instr.typeAssert (.iface 61 (.agg #[])) 36 50 true).run Try.prog W = .ok (.tuple #[.agg #[.int .i64 0], .bool false]) W := fun W => by kernel_rfl
  have hta1 : ∀ W, (Instr.typeAssert (.iface 61 (.agg #[])) 36 52 true).run Try.prog W = .ok (.tuple #[.agg #[.int .i64 0, .int .i64 0], .bool false]) W := fun W => by kernel_rfl
  have hta2 : ∀ W, (Instr.typeAssert (.iface 61 (.agg #[])) 36 53 true).run Try.prog W = .ok (.tuple #[.agg #[.int .i64 0], .bool false]) W := fun W => by kernel_rfl
  have hta3 : ∀ W, (Instr.typeAssert (.iface 61 (.agg #[])) 36 55 true).run Try.prog W = .ok (.tuple #[.agg #[.int .i64 0, .int .i64 0], .bool false]) W := fun W => by kernel_rfl
  have hta4 : ∀ W, (Instr.typeAssert (.iface 61 (.agg #[])) 36 57 true).run Try.prog W = .ok (.tuple #[.agg #[.int .i64 0], .bool false]) W := fun W => by kernel_rfl
  have hta5 : ∀ W, (Instr.typeAssert (.iface 61 (.agg #[])) 36 59 true).run Try.prog W = .ok (.tuple #[.agg #[], .bool false]) W := fun W => by kernel_rfl
  have hta6 : ∀ W, (Instr.typeAssert (.iface 61 (.agg #[])) 36 60 true).run Try.prog W = .ok (.tuple #[.agg #[], .bool false]) W := fun W => by kernel_rfl
  go_enter Try.func19, Try.ntmps19
  go_wp2
  go_ret
  exact ⟨none, 0, rfl, by omega, World.ownsRow_nil _ _ _ _, Below.refl _ _⟩

def NeedsE (k a b v : Int) (w : World) (e : Ending) (w' : World) : Prop :=
  ∃ a' m c', e = .returned (.agg #[.int .i64 (Ch.needsR k a b v).1, .slice a' m c']) ∧ m ≤ 2 ∧ w'.ownsRow w.heap.size 45 2 (.slice a' m c') m (hcells (Ch.needsR k a b v).2) ∧ Below w.heap.size w w'

set_option linter.unusedVariables false in
set_option maxHeartbeats 1000000 in
theorem implNeeds_1 (a b v : Int) (ha : 0 ≤ a ∧ a ≤ 99) (h0 : Ch.opFault 1 a b v = 0) (w : World) :
    Calls Try.prog 9 #[.agg #[.int .i64 1, .int .i64 a, .int .i64 b, .int .i64 v]] w fun e w' => NeedsE 1 a b v w e w' := by
  unfold NeedsE
  rw [Ch.needsR_ok h0, show Ch.needL 1 a = [⟨0, 1⟩, ⟨a + 1, 3⟩] from rfl]
  have hF := fun W => implOp_1 a b v W
  rw [h0] at hF
  have hO := fun W => opOf_1 a b v W
  have hN := fun W => needs_readKey a ha W
  clear h0
  go_enter Try.func9, Try.ntmps9
  go_wp2_with fail
  refine (hF _).mono ?_
  rintro e w1 ⟨rfl, b1⟩
  have b1' := (((Below.refl _ w).alloc (Nat.le_refl _) _).alloc (by simp) _).trans (b1.mono (by simp; omega))
  obtain ⟨cA, fA⟩ := bcell b1
  have x0 := cA w.heap.size 0 (by simp; omega)
  have x1 := cA w.heap.size 1 (by simp; omega)
  have x2 := cA w.heap.size 2 (by simp; omega)
  have x3 := cA w.heap.size 3 (by simp; omega)
  have y0 := cA (w.heap.size + 1) 0 (by simp)
  have y1 := cA (w.heap.size + 1) 1 (by simp)
  have fy0 := fA (w.heap.size + 1) 0 (by simp)
  have fy1 := fA (w.heap.size + 1) 1 (by simp)
  clear cA fA b1 hF
  simp [go_sem] at x0 x1 x2 x3 y0 y1 fy0 fy1
  go_wp2_with fail
  refine (hO _).mono ?_
  rintro e w2 ⟨rfl, b2⟩
  have l1 := lt_of_cell y0
  replace y0 := keep_cell b2 y0
  replace y1 := keep_cell b2 y1
  obtain ⟨cA, fA⟩ := bcell b2
  replace fy0 := (fA (w.heap.size + 1) 0 (by omega)).trans fy0
  replace fy1 := (fA (w.heap.size + 1) 1 (by omega)).trans fy1
  have b2' := b1'.trans (b2.mono b1'.size)
  clear cA fA b2 hO b1' x0 x1 x2 x3
  go_wp2_with fail
  refine (hN _).mono ?_
  rintro e w3 ⟨g, m, rfl, hm, o3, b3⟩
  have l2 := lt_of_cell y0
  replace y0 := keep_cell b3 y0
  replace y1 := keep_cell b3 y1
  obtain ⟨cA, fA⟩ := bcell b3
  replace fy0 := (fA (w.heap.size + 1) 0 (by omega)).trans fy0
  replace fy1 := (fA (w.heap.size + 1) 1 (by omega)).trans fy1
  have b3' := b2'.trans (b3.mono b2'.size)
  clear cA fA b3 hN
  go_wp2
  refine bodyPost_ret (v := .agg #[.int .i64 0, .slice g m m]) (by simp [results, Try.results9, go_sem, y0, y1]) rfl ⟨g, m, m, rfl, hm, ?_, ?_⟩
  · exact owns_base (base := w2.heap.size) (ownsRow_setCell_below (ownsRow_setCell_below o3 (by show w.heap.size + 1 < w2.heap.size; omega) _) (by show w.heap.size + 1 < w2.heap.size; omega) _) b2'.size
  · exact (b3'.setCell (p := ⟨w.heap.size + 1, 0, none⟩) (by show w.heap.size ≤ w.heap.size + 1; omega) _).setCell (p := ⟨w.heap.size + 1, 1, none⟩) (by show w.heap.size ≤ w.heap.size + 1; omega) _

set_option linter.unusedVariables false in
set_option maxHeartbeats 1000000 in
theorem implNeeds_2 (a b v : Int) (ha : 0 ≤ a ∧ a ≤ 99) (h0 : Ch.opFault 2 a b v = 0) (w : World) :
    Calls Try.prog 9 #[.agg #[.int .i64 2, .int .i64 a, .int .i64 b, .int .i64 v]] w fun e w' => NeedsE 2 a b v w e w' := by
  unfold NeedsE
  rw [Ch.needsR_ok h0, show Ch.needL 2 a = [⟨0, 2⟩, ⟨a + 1, 5⟩] from rfl]
  have hF := fun W => implOp_2 a b v W
  rw [h0] at hF
  have hO := fun W => opOf_2 a b v W
  have hN := fun W => needs_setKey a v ha W
  clear h0
  go_enter Try.func9, Try.ntmps9
  go_wp2_with fail
  refine (hF _).mono ?_
  rintro e w1 ⟨rfl, b1⟩
  have b1' := (((Below.refl _ w).alloc (Nat.le_refl _) _).alloc (by simp) _).trans (b1.mono (by simp; omega))
  obtain ⟨cA, fA⟩ := bcell b1
  have x0 := cA w.heap.size 0 (by simp; omega)
  have x1 := cA w.heap.size 1 (by simp; omega)
  have x2 := cA w.heap.size 2 (by simp; omega)
  have x3 := cA w.heap.size 3 (by simp; omega)
  have y0 := cA (w.heap.size + 1) 0 (by simp)
  have y1 := cA (w.heap.size + 1) 1 (by simp)
  have fy0 := fA (w.heap.size + 1) 0 (by simp)
  have fy1 := fA (w.heap.size + 1) 1 (by simp)
  clear cA fA b1 hF
  simp [go_sem] at x0 x1 x2 x3 y0 y1 fy0 fy1
  go_wp2_with fail
  refine (hO _).mono ?_
  rintro e w2 ⟨rfl, b2⟩
  have l1 := lt_of_cell y0
  replace y0 := keep_cell b2 y0
  replace y1 := keep_cell b2 y1
  obtain ⟨cA, fA⟩ := bcell b2
  replace fy0 := (fA (w.heap.size + 1) 0 (by omega)).trans fy0
  replace fy1 := (fA (w.heap.size + 1) 1 (by omega)).trans fy1
  have b2' := b1'.trans (b2.mono b1'.size)
  clear cA fA b2 hO b1' x0 x1 x2 x3
  go_wp2_with fail
  refine (hN _).mono ?_
  rintro e w3 ⟨g, m, rfl, hm, o3, b3⟩
  have l2 := lt_of_cell y0
  replace y0 := keep_cell b3 y0
  replace y1 := keep_cell b3 y1
  obtain ⟨cA, fA⟩ := bcell b3
  replace fy0 := (fA (w.heap.size + 1) 0 (by omega)).trans fy0
  replace fy1 := (fA (w.heap.size + 1) 1 (by omega)).trans fy1
  have b3' := b2'.trans (b3.mono b2'.size)
  clear cA fA b3 hN
  go_wp2
  refine bodyPost_ret (v := .agg #[.int .i64 0, .slice g m m]) (by simp [results, Try.results9, go_sem, y0, y1]) rfl ⟨g, m, m, rfl, hm, ?_, ?_⟩
  · exact owns_base (base := w2.heap.size) (ownsRow_setCell_below (ownsRow_setCell_below o3 (by show w.heap.size + 1 < w2.heap.size; omega) _) (by show w.heap.size + 1 < w2.heap.size; omega) _) b2'.size
  · exact (b3'.setCell (p := ⟨w.heap.size + 1, 0, none⟩) (by show w.heap.size ≤ w.heap.size + 1; omega) _).setCell (p := ⟨w.heap.size + 1, 1, none⟩) (by show w.heap.size ≤ w.heap.size + 1; omega) _

set_option linter.unusedVariables false in
set_option maxHeartbeats 1000000 in
theorem implNeeds_3 (a b v : Int) (ha : 0 ≤ a ∧ a ≤ 99) (h0 : Ch.opFault 3 a b v = 0) (w : World) :
    Calls Try.prog 9 #[.agg #[.int .i64 3, .int .i64 a, .int .i64 b, .int .i64 v]] w fun e w' => NeedsE 3 a b v w e w' := by
  unfold NeedsE
  rw [Ch.needsR_ok h0, show Ch.needL 3 a = [⟨0, 2⟩, ⟨a + 1, 5⟩] from rfl]
  have hF := fun W => implOp_3 a b v W
  rw [h0] at hF
  have hO := fun W => opOf_3 a b v W
  have hN := fun W => needs_emptyKey a ha W
  clear h0
  go_enter Try.func9, Try.ntmps9
  go_wp2_with fail
  refine (hF _).mono ?_
  rintro e w1 ⟨rfl, b1⟩
  have b1' := (((Below.refl _ w).alloc (Nat.le_refl _) _).alloc (by simp) _).trans (b1.mono (by simp; omega))
  obtain ⟨cA, fA⟩ := bcell b1
  have x0 := cA w.heap.size 0 (by simp; omega)
  have x1 := cA w.heap.size 1 (by simp; omega)
  have x2 := cA w.heap.size 2 (by simp; omega)
  have x3 := cA w.heap.size 3 (by simp; omega)
  have y0 := cA (w.heap.size + 1) 0 (by simp)
  have y1 := cA (w.heap.size + 1) 1 (by simp)
  have fy0 := fA (w.heap.size + 1) 0 (by simp)
  have fy1 := fA (w.heap.size + 1) 1 (by simp)
  clear cA fA b1 hF
  simp [go_sem] at x0 x1 x2 x3 y0 y1 fy0 fy1
  go_wp2_with fail
  refine (hO _).mono ?_
  rintro e w2 ⟨rfl, b2⟩
  have l1 := lt_of_cell y0
  replace y0 := keep_cell b2 y0
  replace y1 := keep_cell b2 y1
  obtain ⟨cA, fA⟩ := bcell b2
  replace fy0 := (fA (w.heap.size + 1) 0 (by omega)).trans fy0
  replace fy1 := (fA (w.heap.size + 1) 1 (by omega)).trans fy1
  have b2' := b1'.trans (b2.mono b1'.size)
  clear cA fA b2 hO b1' x0 x1 x2 x3
  go_wp2_with fail
  refine (hN _).mono ?_
  rintro e w3 ⟨g, m, rfl, hm, o3, b3⟩
  have l2 := lt_of_cell y0
  replace y0 := keep_cell b3 y0
  replace y1 := keep_cell b3 y1
  obtain ⟨cA, fA⟩ := bcell b3
  replace fy0 := (fA (w.heap.size + 1) 0 (by omega)).trans fy0
  replace fy1 := (fA (w.heap.size + 1) 1 (by omega)).trans fy1
  have b3' := b2'.trans (b3.mono b2'.size)
  clear cA fA b3 hN
  go_wp2
  refine bodyPost_ret (v := .agg #[.int .i64 0, .slice g m m]) (by simp [results, Try.results9, go_sem, y0, y1]) rfl ⟨g, m, m, rfl, hm, ?_, ?_⟩
  · exact owns_base (base := w2.heap.size) (ownsRow_setCell_below (ownsRow_setCell_below o3 (by show w.heap.size + 1 < w2.heap.size; omega) _) (by show w.heap.size + 1 < w2.heap.size; omega) _) b2'.size
  · exact (b3'.setCell (p := ⟨w.heap.size + 1, 0, none⟩) (by show w.heap.size ≤ w.heap.size + 1; omega) _).setCell (p := ⟨w.heap.size + 1, 1, none⟩) (by show w.heap.size ≤ w.heap.size + 1; omega) _

set_option linter.unusedVariables false in
set_option maxHeartbeats 1000000 in
theorem implNeeds_4 (a b v : Int) (ha : 0 ≤ a ∧ a ≤ 99) (h0 : Ch.opFault 4 a b v = 0) (w : World) :
    Calls Try.prog 9 #[.agg #[.int .i64 4, .int .i64 a, .int .i64 b, .int .i64 v]] w fun e w' => NeedsE 4 a b v w e w' := by
  unfold NeedsE
  rw [Ch.needsR_ok h0, show Ch.needL 4 a = [⟨0, 3⟩] from rfl]
  have hF := fun W => implOp_4 a b v W
  rw [h0] at hF
  have hO := fun W => opOf_4 a b v W
  have hN := fun W => needs_readRange a b W
  clear h0
  go_enter Try.func9, Try.ntmps9
  go_wp2_with fail
  refine (hF _).mono ?_
  rintro e w1 ⟨rfl, b1⟩
  have b1' := (((Below.refl _ w).alloc (Nat.le_refl _) _).alloc (by simp) _).trans (b1.mono (by simp; omega))
  obtain ⟨cA, fA⟩ := bcell b1
  have x0 := cA w.heap.size 0 (by simp; omega)
  have x1 := cA w.heap.size 1 (by simp; omega)
  have x2 := cA w.heap.size 2 (by simp; omega)
  have x3 := cA w.heap.size 3 (by simp; omega)
  have y0 := cA (w.heap.size + 1) 0 (by simp)
  have y1 := cA (w.heap.size + 1) 1 (by simp)
  have fy0 := fA (w.heap.size + 1) 0 (by simp)
  have fy1 := fA (w.heap.size + 1) 1 (by simp)
  clear cA fA b1 hF
  simp [go_sem] at x0 x1 x2 x3 y0 y1 fy0 fy1
  go_wp2_with fail
  refine (hO _).mono ?_
  rintro e w2 ⟨rfl, b2⟩
  have l1 := lt_of_cell y0
  replace y0 := keep_cell b2 y0
  replace y1 := keep_cell b2 y1
  obtain ⟨cA, fA⟩ := bcell b2
  replace fy0 := (fA (w.heap.size + 1) 0 (by omega)).trans fy0
  replace fy1 := (fA (w.heap.size + 1) 1 (by omega)).trans fy1
  have b2' := b1'.trans (b2.mono b1'.size)
  clear cA fA b2 hO b1' x0 x1 x2 x3
  go_wp2_with fail
  refine (hN _).mono ?_
  rintro e w3 ⟨g, m, rfl, hm, o3, b3⟩
  have l2 := lt_of_cell y0
  replace y0 := keep_cell b3 y0
  replace y1 := keep_cell b3 y1
  obtain ⟨cA, fA⟩ := bcell b3
  replace fy0 := (fA (w.heap.size + 1) 0 (by omega)).trans fy0
  replace fy1 := (fA (w.heap.size + 1) 1 (by omega)).trans fy1
  have b3' := b2'.trans (b3.mono b2'.size)
  clear cA fA b3 hN
  go_wp2
  refine bodyPost_ret (v := .agg #[.int .i64 0, .slice g m m]) (by simp [results, Try.results9, go_sem, y0, y1]) rfl ⟨g, m, m, rfl, hm, ?_, ?_⟩
  · exact owns_base (base := w2.heap.size) (ownsRow_setCell_below (ownsRow_setCell_below o3 (by show w.heap.size + 1 < w2.heap.size; omega) _) (by show w.heap.size + 1 < w2.heap.size; omega) _) b2'.size
  · exact (b3'.setCell (p := ⟨w.heap.size + 1, 0, none⟩) (by show w.heap.size ≤ w.heap.size + 1; omega) _).setCell (p := ⟨w.heap.size + 1, 1, none⟩) (by show w.heap.size ≤ w.heap.size + 1; omega) _

set_option linter.unusedVariables false in
set_option maxHeartbeats 1000000 in
theorem implNeeds_5 (a b v : Int) (ha : 0 ≤ a ∧ a ≤ 99) (h0 : Ch.opFault 5 a b v = 0) (w : World) :
    Calls Try.prog 9 #[.agg #[.int .i64 5, .int .i64 a, .int .i64 b, .int .i64 v]] w fun e w' => NeedsE 5 a b v w e w' := by
  unfold NeedsE
  rw [Ch.needsR_ok h0, show Ch.needL 5 a = [⟨0, 3⟩] from rfl]
  have hF := fun W => implOp_5 a b v W
  rw [h0] at hF
  have hO := fun W => opOf_5 a b v W
  have hN := fun W => needs_readValue v W
  clear h0
  go_enter Try.func9, Try.ntmps9
  go_wp2_with fail
  refine (hF _).mono ?_
  rintro e w1 ⟨rfl, b1⟩
  have b1' := (((Below.refl _ w).alloc (Nat.le_refl _) _).alloc (by simp) _).trans (b1.mono (by simp; omega))
  obtain ⟨cA, fA⟩ := bcell b1
  have x0 := cA w.heap.size 0 (by simp; omega)
  have x1 := cA w.heap.size 1 (by simp; omega)
  have x2 := cA w.heap.size 2 (by simp; omega)
  have x3 := cA w.heap.size 3 (by simp; omega)
  have y0 := cA (w.heap.size + 1) 0 (by simp)
  have y1 := cA (w.heap.size + 1) 1 (by simp)
  have fy0 := fA (w.heap.size + 1) 0 (by simp)
  have fy1 := fA (w.heap.size + 1) 1 (by simp)
  clear cA fA b1 hF
  simp [go_sem] at x0 x1 x2 x3 y0 y1 fy0 fy1
  go_wp2_with fail
  refine (hO _).mono ?_
  rintro e w2 ⟨rfl, b2⟩
  have l1 := lt_of_cell y0
  replace y0 := keep_cell b2 y0
  replace y1 := keep_cell b2 y1
  obtain ⟨cA, fA⟩ := bcell b2
  replace fy0 := (fA (w.heap.size + 1) 0 (by omega)).trans fy0
  replace fy1 := (fA (w.heap.size + 1) 1 (by omega)).trans fy1
  have b2' := b1'.trans (b2.mono b1'.size)
  clear cA fA b2 hO b1' x0 x1 x2 x3
  go_wp2_with fail
  refine (hN _).mono ?_
  rintro e w3 ⟨g, m, rfl, hm, o3, b3⟩
  have l2 := lt_of_cell y0
  replace y0 := keep_cell b3 y0
  replace y1 := keep_cell b3 y1
  obtain ⟨cA, fA⟩ := bcell b3
  replace fy0 := (fA (w.heap.size + 1) 0 (by omega)).trans fy0
  replace fy1 := (fA (w.heap.size + 1) 1 (by omega)).trans fy1
  have b3' := b2'.trans (b3.mono b2'.size)
  clear cA fA b3 hN
  go_wp2
  refine bodyPost_ret (v := .agg #[.int .i64 0, .slice g m m]) (by simp [results, Try.results9, go_sem, y0, y1]) rfl ⟨g, m, m, rfl, hm, ?_, ?_⟩
  · exact owns_base (base := w2.heap.size) (ownsRow_setCell_below (ownsRow_setCell_below o3 (by show w.heap.size + 1 < w2.heap.size; omega) _) (by show w.heap.size + 1 < w2.heap.size; omega) _) b2'.size
  · exact (b3'.setCell (p := ⟨w.heap.size + 1, 0, none⟩) (by show w.heap.size ≤ w.heap.size + 1; omega) _).setCell (p := ⟨w.heap.size + 1, 1, none⟩) (by show w.heap.size ≤ w.heap.size + 1; omega) _

set_option linter.unusedVariables false in
set_option maxHeartbeats 1000000 in
theorem implNeeds_6 (a b v : Int) (ha : 0 ≤ a ∧ a ≤ 99) (h0 : Ch.opFault 6 a b v = 0) (w : World) :
    Calls Try.prog 9 #[.agg #[.int .i64 6, .int .i64 a, .int .i64 b, .int .i64 v]] w fun e w' => NeedsE 6 a b v w e w' := by
  unfold NeedsE
  rw [Ch.needsR_ok h0, show Ch.needL 6 a = [] from rfl]
  have hF := fun W => implOp_6 a b v W
  rw [h0] at hF
  have hO := fun W => opOf_6 a b v W
  have hN := fun W => needs_endTxn  W
  clear h0
  go_enter Try.func9, Try.ntmps9
  go_wp2_with fail
  refine (hF _).mono ?_
  rintro e w1 ⟨rfl, b1⟩
  have b1' := (((Below.refl _ w).alloc (Nat.le_refl _) _).alloc (by simp) _).trans (b1.mono (by simp; omega))
  obtain ⟨cA, fA⟩ := bcell b1
  have x0 := cA w.heap.size 0 (by simp; omega)
  have x1 := cA w.heap.size 1 (by simp; omega)
  have x2 := cA w.heap.size 2 (by simp; omega)
  have x3 := cA w.heap.size 3 (by simp; omega)
  have y0 := cA (w.heap.size + 1) 0 (by simp)
  have y1 := cA (w.heap.size + 1) 1 (by simp)
  have fy0 := fA (w.heap.size + 1) 0 (by simp)
  have fy1 := fA (w.heap.size + 1) 1 (by simp)
  clear cA fA b1 hF
  simp [go_sem] at x0 x1 x2 x3 y0 y1 fy0 fy1
  go_wp2_with fail
  refine (hO _).mono ?_
  rintro e w2 ⟨rfl, b2⟩
  have l1 := lt_of_cell y0
  replace y0 := keep_cell b2 y0
  replace y1 := keep_cell b2 y1
  obtain ⟨cA, fA⟩ := bcell b2
  replace fy0 := (fA (w.heap.size + 1) 0 (by omega)).trans fy0
  replace fy1 := (fA (w.heap.size + 1) 1 (by omega)).trans fy1
  have b2' := b1'.trans (b2.mono b1'.size)
  clear cA fA b2 hO b1' x0 x1 x2 x3
  go_wp2_with fail
  refine (hN _).mono ?_
  rintro e w3 ⟨g, m, rfl, hm, o3, b3⟩
  have l2 := lt_of_cell y0
  replace y0 := keep_cell b3 y0
  replace y1 := keep_cell b3 y1
  obtain ⟨cA, fA⟩ := bcell b3
  replace fy0 := (fA (w.heap.size + 1) 0 (by omega)).trans fy0
  replace fy1 := (fA (w.heap.size + 1) 1 (by omega)).trans fy1
  have b3' := b2'.trans (b3.mono b2'.size)
  clear cA fA b3 hN
  go_wp2
  refine bodyPost_ret (v := .agg #[.int .i64 0, .slice g m m]) (by simp [results, Try.results9, go_sem, y0, y1]) rfl ⟨g, m, m, rfl, hm, ?_, ?_⟩
  · exact owns_base (base := w2.heap.size) (ownsRow_setCell_below (ownsRow_setCell_below o3 (by show w.heap.size + 1 < w2.heap.size; omega) _) (by show w.heap.size + 1 < w2.heap.size; omega) _) b2'.size
  · exact (b3'.setCell (p := ⟨w.heap.size + 1, 0, none⟩) (by show w.heap.size ≤ w.heap.size + 1; omega) _).setCell (p := ⟨w.heap.size + 1, 1, none⟩) (by show w.heap.size ≤ w.heap.size + 1; omega) _

set_option linter.unusedVariables false in
set_option maxHeartbeats 1000000 in
theorem implNeeds_7 (a b v : Int) (ha : 0 ≤ a ∧ a ≤ 99) (h0 : Ch.opFault 7 a b v = 0) (w : World) :
    Calls Try.prog 9 #[.agg #[.int .i64 7, .int .i64 a, .int .i64 b, .int .i64 v]] w fun e w' => NeedsE 7 a b v w e w' := by
  unfold NeedsE
  rw [Ch.needsR_ok h0, show Ch.needL 7 a = [] from rfl]
  have hF := fun W => implOp_7 a b v W
  rw [h0] at hF
  have hO := fun W => opOf_7 a b v W
  have hN := fun W => needs_endTxn  W
  clear h0
  go_enter Try.func9, Try.ntmps9
  go_wp2_with fail
  refine (hF _).mono ?_
  rintro e w1 ⟨rfl, b1⟩
  have b1' := (((Below.refl _ w).alloc (Nat.le_refl _) _).alloc (by simp) _).trans (b1.mono (by simp; omega))
  obtain ⟨cA, fA⟩ := bcell b1
  have x0 := cA w.heap.size 0 (by simp; omega)
  have x1 := cA w.heap.size 1 (by simp; omega)
  have x2 := cA w.heap.size 2 (by simp; omega)
  have x3 := cA w.heap.size 3 (by simp; omega)
  have y0 := cA (w.heap.size + 1) 0 (by simp)
  have y1 := cA (w.heap.size + 1) 1 (by simp)
  have fy0 := fA (w.heap.size + 1) 0 (by simp)
  have fy1 := fA (w.heap.size + 1) 1 (by simp)
  clear cA fA b1 hF
  simp [go_sem] at x0 x1 x2 x3 y0 y1 fy0 fy1
  go_wp2_with fail
  refine (hO _).mono ?_
  rintro e w2 ⟨rfl, b2⟩
  have l1 := lt_of_cell y0
  replace y0 := keep_cell b2 y0
  replace y1 := keep_cell b2 y1
  obtain ⟨cA, fA⟩ := bcell b2
  replace fy0 := (fA (w.heap.size + 1) 0 (by omega)).trans fy0
  replace fy1 := (fA (w.heap.size + 1) 1 (by omega)).trans fy1
  have b2' := b1'.trans (b2.mono b1'.size)
  clear cA fA b2 hO b1' x0 x1 x2 x3
  go_wp2_with fail
  refine (hN _).mono ?_
  rintro e w3 ⟨g, m, rfl, hm, o3, b3⟩
  have l2 := lt_of_cell y0
  replace y0 := keep_cell b3 y0
  replace y1 := keep_cell b3 y1
  obtain ⟨cA, fA⟩ := bcell b3
  replace fy0 := (fA (w.heap.size + 1) 0 (by omega)).trans fy0
  replace fy1 := (fA (w.heap.size + 1) 1 (by omega)).trans fy1
  have b3' := b2'.trans (b3.mono b2'.size)
  clear cA fA b3 hN
  go_wp2
  refine bodyPost_ret (v := .agg #[.int .i64 0, .slice g m m]) (by simp [results, Try.results9, go_sem, y0, y1]) rfl ⟨g, m, m, rfl, hm, ?_, ?_⟩
  · exact owns_base (base := w2.heap.size) (ownsRow_setCell_below (ownsRow_setCell_below o3 (by show w.heap.size + 1 < w2.heap.size; omega) _) (by show w.heap.size + 1 < w2.heap.size; omega) _) b2'.size
  · exact (b3'.setCell (p := ⟨w.heap.size + 1, 0, none⟩) (by show w.heap.size ≤ w.heap.size + 1; omega) _).setCell (p := ⟨w.heap.size + 1, 1, none⟩) (by show w.heap.size ≤ w.heap.size + 1; omega) _

set_option linter.unusedVariables false in
set_option maxHeartbeats 1000000 in
theorem implNeeds_8 (a b v : Int) (ha : 0 ≤ a ∧ a ≤ 99) (h0 : Ch.opFault 8 a b v = 0) (w : World) :
    Calls Try.prog 9 #[.agg #[.int .i64 8, .int .i64 a, .int .i64 b, .int .i64 v]] w fun e w' => NeedsE 8 a b v w e w' := by
  unfold NeedsE
  rw [Ch.needsR_ok h0, show Ch.needL 8 a = [⟨0, 2⟩, ⟨a + 1, 5⟩] from rfl]
  have hF := fun W => implOp_8 a b v W
  rw [h0] at hF
  have hO := fun W => opOf_8 a b v W
  have hN := fun W => needs_emptyKey a ha W
  clear h0
  go_enter Try.func9, Try.ntmps9
  go_wp2_with fail
  refine (hF _).mono ?_
  rintro e w1 ⟨rfl, b1⟩
  have b1' := (((Below.refl _ w).alloc (Nat.le_refl _) _).alloc (by simp) _).trans (b1.mono (by simp; omega))
  obtain ⟨cA, fA⟩ := bcell b1
  have x0 := cA w.heap.size 0 (by simp; omega)
  have x1 := cA w.heap.size 1 (by simp; omega)
  have x2 := cA w.heap.size 2 (by simp; omega)
  have x3 := cA w.heap.size 3 (by simp; omega)
  have y0 := cA (w.heap.size + 1) 0 (by simp)
  have y1 := cA (w.heap.size + 1) 1 (by simp)
  have fy0 := fA (w.heap.size + 1) 0 (by simp)
  have fy1 := fA (w.heap.size + 1) 1 (by simp)
  clear cA fA b1 hF
  simp [go_sem] at x0 x1 x2 x3 y0 y1 fy0 fy1
  go_wp2_with fail
  refine (hO _).mono ?_
  rintro e w2 ⟨rfl, b2⟩
  have l1 := lt_of_cell y0
  replace y0 := keep_cell b2 y0
  replace y1 := keep_cell b2 y1
  obtain ⟨cA, fA⟩ := bcell b2
  replace fy0 := (fA (w.heap.size + 1) 0 (by omega)).trans fy0
  replace fy1 := (fA (w.heap.size + 1) 1 (by omega)).trans fy1
  have b2' := b1'.trans (b2.mono b1'.size)
  clear cA fA b2 hO b1' x0 x1 x2 x3
  go_wp2_with fail
  refine (hN _).mono ?_
  rintro e w3 ⟨g, m, rfl, hm, o3, b3⟩
  have l2 := lt_of_cell y0
  replace y0 := keep_cell b3 y0
  replace y1 := keep_cell b3 y1
  obtain ⟨cA, fA⟩ := bcell b3
  replace fy0 := (fA (w.heap.size + 1) 0 (by omega)).trans fy0
  replace fy1 := (fA (w.heap.size + 1) 1 (by omega)).trans fy1
  have b3' := b2'.trans (b3.mono b2'.size)
  clear cA fA b3 hN
  go_wp2
  refine bodyPost_ret (v := .agg #[.int .i64 0, .slice g m m]) (by simp [results, Try.results9, go_sem, y0, y1]) rfl ⟨g, m, m, rfl, hm, ?_, ?_⟩
  · exact owns_base (base := w2.heap.size) (ownsRow_setCell_below (ownsRow_setCell_below o3 (by show w.heap.size + 1 < w2.heap.size; omega) _) (by show w.heap.size + 1 < w2.heap.size; omega) _) b2'.size
  · exact (b3'.setCell (p := ⟨w.heap.size + 1, 0, none⟩) (by show w.heap.size ≤ w.heap.size + 1; omega) _).setCell (p := ⟨w.heap.size + 1, 1, none⟩) (by show w.heap.size ≤ w.heap.size + 1; omega) _

set_option linter.unusedVariables false in
set_option maxHeartbeats 1000000 in
theorem implNeeds_9 (a b v : Int) (ha : 0 ≤ a ∧ a ≤ 99) (h0 : Ch.opFault 9 a b v = 0) (w : World) :
    Calls Try.prog 9 #[.agg #[.int .i64 9, .int .i64 a, .int .i64 b, .int .i64 v]] w fun e w' => NeedsE 9 a b v w e w' := by
  unfold NeedsE
  rw [Ch.needsR_ok h0, show Ch.needL 9 a = [⟨0, 1⟩] from rfl]
  have hF := fun W => implOp_9 a b v W
  rw [h0] at hF
  have hO := fun W => opOf_9 a b v W
  have hN := fun W => needs_moveRows  W
  clear h0
  go_enter Try.func9, Try.ntmps9
  go_wp2_with fail
  refine (hF _).mono ?_
  rintro e w1 ⟨rfl, b1⟩
  have b1' := (((Below.refl _ w).alloc (Nat.le_refl _) _).alloc (by simp) _).trans (b1.mono (by simp; omega))
  obtain ⟨cA, fA⟩ := bcell b1
  have x0 := cA w.heap.size 0 (by simp; omega)
  have x1 := cA w.heap.size 1 (by simp; omega)
  have x2 := cA w.heap.size 2 (by simp; omega)
  have x3 := cA w.heap.size 3 (by simp; omega)
  have y0 := cA (w.heap.size + 1) 0 (by simp)
  have y1 := cA (w.heap.size + 1) 1 (by simp)
  have fy0 := fA (w.heap.size + 1) 0 (by simp)
  have fy1 := fA (w.heap.size + 1) 1 (by simp)
  clear cA fA b1 hF
  simp [go_sem] at x0 x1 x2 x3 y0 y1 fy0 fy1
  go_wp2_with fail
  refine (hO _).mono ?_
  rintro e w2 ⟨rfl, b2⟩
  have l1 := lt_of_cell y0
  replace y0 := keep_cell b2 y0
  replace y1 := keep_cell b2 y1
  obtain ⟨cA, fA⟩ := bcell b2
  replace fy0 := (fA (w.heap.size + 1) 0 (by omega)).trans fy0
  replace fy1 := (fA (w.heap.size + 1) 1 (by omega)).trans fy1
  have b2' := b1'.trans (b2.mono b1'.size)
  clear cA fA b2 hO b1' x0 x1 x2 x3
  go_wp2_with fail
  refine (hN _).mono ?_
  rintro e w3 ⟨g, m, rfl, hm, o3, b3⟩
  have l2 := lt_of_cell y0
  replace y0 := keep_cell b3 y0
  replace y1 := keep_cell b3 y1
  obtain ⟨cA, fA⟩ := bcell b3
  replace fy0 := (fA (w.heap.size + 1) 0 (by omega)).trans fy0
  replace fy1 := (fA (w.heap.size + 1) 1 (by omega)).trans fy1
  have b3' := b2'.trans (b3.mono b2'.size)
  clear cA fA b3 hN
  go_wp2
  refine bodyPost_ret (v := .agg #[.int .i64 0, .slice g m m]) (by simp [results, Try.results9, go_sem, y0, y1]) rfl ⟨g, m, m, rfl, hm, ?_, ?_⟩
  · exact owns_base (base := w2.heap.size) (ownsRow_setCell_below (ownsRow_setCell_below o3 (by show w.heap.size + 1 < w2.heap.size; omega) _) (by show w.heap.size + 1 < w2.heap.size; omega) _) b2'.size
  · exact (b3'.setCell (p := ⟨w.heap.size + 1, 0, none⟩) (by show w.heap.size ≤ w.heap.size + 1; omega) _).setCell (p := ⟨w.heap.size + 1, 1, none⟩) (by show w.heap.size ≤ w.heap.size + 1; omega) _

set_option linter.unusedVariables false in
set_option maxHeartbeats 1000000 in
theorem implNeeds_10 (a b v : Int) (ha : 0 ≤ a ∧ a ≤ 99) (h0 : Ch.opFault 10 a b v = 0) (w : World) :
    Calls Try.prog 9 #[.agg #[.int .i64 10, .int .i64 a, .int .i64 b, .int .i64 v]] w fun e w' => NeedsE 10 a b v w e w' := by
  unfold NeedsE
  rw [Ch.needsR_ok h0, show Ch.needL 10 a = [⟨0, 3⟩] from rfl]
  have hF := fun W => implOp_10 a b v W
  rw [h0] at hF
  have hO := fun W => opOf_10 a b v W
  have hN := fun W => needs_readAll  W
  clear h0
  go_enter Try.func9, Try.ntmps9
  go_wp2_with fail
  refine (hF _).mono ?_
  rintro e w1 ⟨rfl, b1⟩
  have b1' := (((Below.refl _ w).alloc (Nat.le_refl _) _).alloc (by simp) _).trans (b1.mono (by simp; omega))
  obtain ⟨cA, fA⟩ := bcell b1
  have x0 := cA w.heap.size 0 (by simp; omega)
  have x1 := cA w.heap.size 1 (by simp; omega)
  have x2 := cA w.heap.size 2 (by simp; omega)
  have x3 := cA w.heap.size 3 (by simp; omega)
  have y0 := cA (w.heap.size + 1) 0 (by simp)
  have y1 := cA (w.heap.size + 1) 1 (by simp)
  have fy0 := fA (w.heap.size + 1) 0 (by simp)
  have fy1 := fA (w.heap.size + 1) 1 (by simp)
  clear cA fA b1 hF
  simp [go_sem] at x0 x1 x2 x3 y0 y1 fy0 fy1
  go_wp2_with fail
  refine (hO _).mono ?_
  rintro e w2 ⟨rfl, b2⟩
  have l1 := lt_of_cell y0
  replace y0 := keep_cell b2 y0
  replace y1 := keep_cell b2 y1
  obtain ⟨cA, fA⟩ := bcell b2
  replace fy0 := (fA (w.heap.size + 1) 0 (by omega)).trans fy0
  replace fy1 := (fA (w.heap.size + 1) 1 (by omega)).trans fy1
  have b2' := b1'.trans (b2.mono b1'.size)
  clear cA fA b2 hO b1' x0 x1 x2 x3
  go_wp2_with fail
  refine (hN _).mono ?_
  rintro e w3 ⟨g, m, rfl, hm, o3, b3⟩
  have l2 := lt_of_cell y0
  replace y0 := keep_cell b3 y0
  replace y1 := keep_cell b3 y1
  obtain ⟨cA, fA⟩ := bcell b3
  replace fy0 := (fA (w.heap.size + 1) 0 (by omega)).trans fy0
  replace fy1 := (fA (w.heap.size + 1) 1 (by omega)).trans fy1
  have b3' := b2'.trans (b3.mono b2'.size)
  clear cA fA b3 hN
  go_wp2
  refine bodyPost_ret (v := .agg #[.int .i64 0, .slice g m m]) (by simp [results, Try.results9, go_sem, y0, y1]) rfl ⟨g, m, m, rfl, hm, ?_, ?_⟩
  · exact owns_base (base := w2.heap.size) (ownsRow_setCell_below (ownsRow_setCell_below o3 (by show w.heap.size + 1 < w2.heap.size; omega) _) (by show w.heap.size + 1 < w2.heap.size; omega) _) b2'.size
  · exact (b3'.setCell (p := ⟨w.heap.size + 1, 0, none⟩) (by show w.heap.size ≤ w.heap.size + 1; omega) _).setCell (p := ⟨w.heap.size + 1, 1, none⟩) (by show w.heap.size ≤ w.heap.size + 1; omega) _

set_option maxHeartbeats 1000000 in
theorem implNeeds_bad (k a b v c : Int) (hc : Ch.opFault k a b v = c) (h0 : c ≠ 0) (w : World) :
    Calls Try.prog 9 #[.agg #[.int .i64 k, .int .i64 a, .int .i64 b, .int .i64 v]] w fun e w' => NeedsE k a b v w e w' := by
  unfold NeedsE
  rw [Ch.needsR_bad hc h0]
  have hF := fun W => implOp_any k a b v W
  rw [hc] at hF
  have hn : (c != 0) = true := by simpa using h0
  clear hc h0
  go_enter Try.func9, Try.ntmps9
  go_wp2_with fail
  refine (hF _).mono ?_
  rintro e w1 ⟨rfl, b1⟩
  have b1' := (((Below.refl _ w).alloc (Nat.le_refl _) _).alloc (by simp) _).trans (b1.mono (by simp; omega))
  obtain ⟨cA, fA⟩ := bcell b1
  have y0 := cA (w.heap.size + 1) 0 (by simp)
  have y1 := cA (w.heap.size + 1) 1 (by simp)
  have fy0 := fA (w.heap.size + 1) 0 (by simp)
  have fy1 := fA (w.heap.size + 1) 1 (by simp)
  clear cA fA b1 hF
  simp [go_sem] at y0 y1 fy0 fy1
  go_wp2
  refine bodyPost_ret (v := .agg #[.int .i64 c, .slice none 0 0]) (by simp [results, Try.results9, go_sem, y0, y1]) rfl ⟨none, 0, 0, rfl, by omega, World.ownsRow_nil _ _ _ _, ?_⟩
  exact (b1'.setCell (p := ⟨w.heap.size + 1, 0, none⟩) (by show w.heap.size ≤ w.heap.size + 1; omega) _).setCell (p := ⟨w.heap.size + 1, 1, none⟩) (by show w.heap.size ≤ w.heap.size + 1; omega) _

theorem implNeeds_any (k a b v : Int) (w : World) :
    Calls Try.prog 9 #[.agg #[.int .i64 k, .int .i64 a, .int .i64 b, .int .i64 v]] w fun e w' => NeedsE k a b v w e w' := by
  by_cases h0 : Ch.opFault k a b v = 0
  · obtain ⟨hk, ha⟩ := Ch.op_kind h0
    rcases hk with rfl | rfl | rfl | rfl | rfl | rfl | rfl | rfl | rfl | rfl
    · exact implNeeds_1 a b v ha h0 w
    · exact implNeeds_2 a b v ha h0 w
    · exact implNeeds_3 a b v ha h0 w
    · exact implNeeds_4 a b v ha h0 w
    · exact implNeeds_5 a b v ha h0 w
    · exact implNeeds_6 a b v ha h0 w
    · exact implNeeds_7 a b v ha h0 w
    · exact implNeeds_8 a b v ha h0 w
    · exact implNeeds_9 a b v ha h0 w
    · exact implNeeds_10 a b v ha h0 w
  · exact implNeeds_bad k a b v _ rfl h0 w
end Go.Proofs.Ytnbhabifblahmaa
