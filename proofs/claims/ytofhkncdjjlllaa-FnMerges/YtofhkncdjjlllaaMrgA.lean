
/- Two leaves asked for, and their rows in one: the program's. -/
import Derived.Test.YtofhkncdjjlllaaCopyW
import Derived.Test.YtofhkncdjjlllaaInsG
import Derived.Test.YtofhkncdjjlllaaMrgM
import Derived.Test.YtofhkncdjjlllaaForI
import Derived.Laws.NewBlocks
import Derived.Lib.AppendZeros
namespace Go.Proofs.Ytofhkncdjjlllaa
open Go.RowKit

theorem heap_newM {w : World} {o : Obj} {n : Nat} (h : n = w.heap.size) : (w.alloc o).heap[n]? = some o := by
  subst h; exact heap_alloc_new w o

set_option maxHeartbeats 400000 in
theorem grow_zeroR (w : World) : Calls Try.prog 147 #[.slice none 0 0, .int .i64 0] w fun e w' => e = .returned (.slice none 0 0) ∧ w' = w := by
  go_enter Try.func147, Try.ntmps147
  go_wp2
  go_ret
  exact ⟨rfl, rfl⟩

theorem grow_runR (k ty : Nat) (w : World) (h0 : 0 < k) (hk : k ≤ 2097152) :
    ∃ c W1, (Builtin.append_ #[48, 3] ty #[.slice none 0 0, .int .i64 k]).run Try.prog w = .ok (.slice (some ⟨w.heap.size, 0, none⟩) k c) W1 ∧ k ≤ c ∧ W1.ownsRow w.heap.size 42 3 (.slice (some ⟨w.heap.size, 0, none⟩) 0 c) 0 [] ∧ Below w.heap.size w W1 := by
  obtain ⟨i0, hi, hz0, hz1, hz2⟩ := info_parts Try.info42
  have hrun := Lib.run_append_nil_zeros (P := Try.prog) w 48 3 ty 42 i0 (.agg #[.int .i64 0, .int .i64 0, .bool false]) .i64 .i64 Try.underlying48 Try.underlying3 hi hz0 k h0 (by omega) (by omega) (by rw [hz2]; omega)
  have hge := grownCap_ge w k 0 42
  have hle := grownCap_le_maxLen w k 0 42 (by unfold maxLen; omega)
  refine ⟨_, _, hrun, hge, ⟨rfl, .inr ⟨w.heap.size, grownCap w k 0 42, _, rfl, Nat.le_refl _, heap_newM (by simp), Nat.zero_le _, hle, ?_, rfl⟩⟩, ((Below.refl _ _).drew).alloc (by simp) _⟩
  simp [Builtin.zeroCells, Value.cells]
  omega

theorem wpList_appZR {ops : Array Oper} {rest : List Oper} {o : Oper} {a : Act} {w : World} {Q : Exit → Act → World → Prop} (s x : Operand) (k : Nat) (h0 : 0 < k) (hk : k ≤ 2097152)
    (ho : o.op = .call { callee := .builtin .append, args := #[s, x], argTypes := #[48, 3] }) (hgd : o.guard = none)
    (hs : a.eval s = .slice none 0 0) (hx : a.eval x = .int .i64 k)
    (hK : ∀ c W1, k ≤ c → W1.ownsRow w.heap.size 42 3 (.slice (some ⟨w.heap.size, 0, none⟩) 0 c) 0 [] → Below w.heap.size w W1 → wpList Try.prog ops Q rest (a.put o.dst (.slice (some ⟨w.heap.size, 0, none⟩) k c)) W1) :
    wpList Try.prog ops Q (o :: rest) a w := by
  obtain ⟨c, W1, hrun, hc, own, b⟩ := grow_runR k o.type w h0 hk
  refine wpList_plain hgd fun K hK' => ?_
  unfold Oper.wp
  simp [execOp, ho, resolve, invoke, builtin, hs, hx, hrun, Result.andThen]
  exact hK' _ _ (hK c W1 hc own b)

set_option maxRecDepth 10000 in
set_option maxHeartbeats 400000 in
theorem grow_someR (k : Nat) (w : World) (h0 : 0 < k) (hk : k ≤ 2097152) : Calls Try.prog 147 #[.slice none 0 0, .int .i64 k] w fun e w' => ∃ a' c', e = .returned (.slice a' 0 c') ∧ w'.ownsRow w.heap.size 42 3 (.slice a' 0 c') 0 [] ∧ Below w.heap.size w w' := by
  have i1 : (0 : Int) < (k : Int) := by omega
  have i2 : ¬ (k : Int) < 0 := by omega
  go_enter Try.func147, Try.ntmps147
  go_wp2_with (at_builtin; go_must (refine wpList_appZR (.tmp 20) (.tmp 21) k h0 hk ?_ ?_ ?_ ?_ ?_; exact rfl; exact rfl; exact rfl; exact rfl; intro c W1 hc own b; have hc0 : ¬ c = 0 := Nat.ne_of_gt (Nat.lt_of_lt_of_le h0 hc)))
  go_ret
  exact ⟨some ⟨w.heap.size, 0, none⟩, c, rfl, own, b⟩

theorem grow_anyR (k : Nat) (w : World) (hk : k ≤ 2097152) : Calls Try.prog 147 #[.slice none 0 0, .int .i64 k] w fun e w' => ∃ a' c', e = .returned (.slice a' 0 c') ∧ w'.ownsRow w.heap.size 42 3 (.slice a' 0 c') 0 [] ∧ Below w.heap.size w w' := by
  by_cases h0 : k = 0
  · subst h0
    refine (grow_zeroR w).mono ?_
    rintro e w' ⟨rfl, rfl⟩
    exact ⟨none, 0, rfl, World.ownsRow_nil _ _ _ _, Below.refl _ _⟩
  · exact grow_someR k w (by omega) hk

set_option maxRecDepth 10000 in
set_option maxHeartbeats 2000000 in
theorem concat_anyR (g : Nat) (ad1 ad2 : Addr) (n1 n2 c1 c2 : Nat) (xs ys : List Ch.Row) (w : World) (p0 : w.cell? ⟨g, 0, none⟩ = some (.slice (some ad1) n1 c1)) (p1 : w.cell? ⟨g, 1, none⟩ = some (.slice (some ad2) n2 c2))
    (h1 : CellsAt w (some ad1) (n1 * 3) (rcells xs)) (h2 : CellsAt w (some ad2) (n2 * 3) (rcells ys)) (hn : n1 + n2 ≤ 2097152) :
    Calls Try.prog 124 #[.slice (some ⟨g, 0, none⟩) 2 2] w fun e w' => ∃ a' c', e = .returned (.slice a' (n1 + n2) c') ∧ w'.ownsRow w.heap.size 42 3 (.slice a' (n1 + n2) c') (n1 + n2) (rcells (xs ++ ys)) ∧ Below w.heap.size w w' := by
  have hgA := grow_anyR (n1 + n2) w hn
  have cst : ((n1 + n2 : Nat) : Int) = (n1 : Int) + (n2 : Int) := by omega
  rw [cst] at hgA
  have z1 : ¬ (n1 : Int) < 0 := by omega
  have z2 : ¬ (n1 : Int) + (n2 : Int) < 0 := by omega
  have b1 : n1 ≤ 2097152 := by omega
  have b2 : n2 ≤ 2097152 := by omega
  have m1 : 0 + n1 ≤ 2097152 := by omega
  have m2 : n1 + n2 ≤ 2097152 := by omega
  clear hn cst
  go_enter Try.func124, Try.ntmps124
  go_wp2
  refine wp_loop_rounds 3 ?_
  rw [rounds_succ]
  go_wp2
  rw [rounds_succ]
  go_wp2
  rw [rounds_succ]
  go_wp2_with fail
  refine hgA.mono ?_
  clear hgA
  rintro e w1 ⟨a1, k1, rfl, o1, bb1⟩
  have q0 := keep_cell bb1 p0
  have q1 := keep_cell bb1 p1
  have hx1 := h1.below bb1
  have hs1 := bb1.size
  go_wp2
  refine wp_loop_rounds 3 ?_
  rw [rounds_succ]
  go_wp2_with (at_builtin; go_must (refine wpList_appRs (.tmp 31) (.tmp 32) w.heap.size (.slice a1 0 k1) 0 [] n1 xs m1 ?_ ?_ ?_ ?_ ?_ ?_ ?_; exact rfl; exact rfl; exact rfl; exact ⟨_, _, rfl, hx1⟩; exact o1; exact hs1; intro a2 k2 w2 o2 bb2))
  simp only [Nat.zero_add, List.nil_append] at o2
  have bA := bb1.trans bb2
  have r0 := keep_cell bA p0
  have r1 := keep_cell bA p1
  have hx2 := h2.below bA
  have hs2 := bA.size
  clear o1 hx1 q0 q1 bb1 bb2
  rw [rounds_succ]
  go_wp2_with (at_builtin; go_must (refine wpList_appRs (.tmp 31) (.tmp 32) w.heap.size (.slice a2 n1 k2) n1 xs n2 ys m2 ?_ ?_ ?_ ?_ ?_ ?_ ?_; exact rfl; exact rfl; exact rfl; exact ⟨_, _, rfl, hx2⟩; exact o2; exact hs2; intro a3 k3 w3 o3 bb3))
  rw [rounds_succ]
  go_wp2
  go_ret
  exact ⟨a3, k3, rfl, o3, bA.trans bb3⟩


set_option maxHeartbeats 400000 in
theorem pairFault_any (a : Option Addr) (n cap : Nat) (key : Int) (ls : List (List Ch.Row)) (w : World) (h : LvAt w a n ls) (hs : Ch.lvSize ls ≤ 1048576) :
    Calls Try.prog 81 #[.slice a n cap, .int .i64 key] w fun e w' => e = .returned (.int .i64 (Ch.pairAsked ls key)) ∧ Below w.heap.size w w' := by
  have HL := h.len
  have hn : n ≤ 1048576 := by unfold Ch.lvSize at hs; have := HL.out; omega
  have FI := fun W hW => implLeaves_any a n cap ls W hW hs
  unfold Ch.pairAsked
  rw [← HL.out]
  cases hc : (Ch.leavesFault ls != 0)
  · have h0 : Ch.leavesFault ls = 0 := by simpa using hc
    rw [h0] at FI
    cases hb : Ch.inB key 0 ((n : Int) - 2)
    · by_cases hk : key < 0
      · go_enter Try.func81, Try.ntmps81
        go_wp2_with fail
        refine (FI _ h).mono ?_
        rintro e w1 ⟨rfl, b1⟩
        go_wp2
        go_ret
        exact ⟨rfl, b1⟩
      · have hk2 : (n : Int) - 1 ≤ key := by simp [Ch.inB] at hb; omega
        go_enter Try.func81, Try.ntmps81
        go_wp2_with fail
        refine (FI _ h).mono ?_
        rintro e w1 ⟨rfl, b1⟩
        go_wp2
        go_ret
        exact ⟨rfl, b1⟩
    · have hk : ¬ key < 0 := by simp [Ch.inB] at hb; omega
      have hk2 : ¬ (n : Int) - 1 ≤ key := by simp [Ch.inB] at hb; omega
      go_enter Try.func81, Try.ntmps81
      go_wp2_with fail
      refine (FI _ h).mono ?_
      rintro e w1 ⟨rfl, b1⟩
      go_wp2
      go_ret
      exact ⟨rfl, b1⟩
  · generalize Ch.leavesFault ls = c at *
    go_enter Try.func81, Try.ntmps81
    go_wp2_with fail
    refine (FI _ h).mono ?_
    rintro e w1 ⟨rfl, b1⟩
    go_wp2
    go_ret
    exact ⟨rfl, b1⟩

set_option maxHeartbeats 400000 in
theorem l4Asked_any (a : Option Addr) (n cap : Nat) (key : Int) (ls : List (List Ch.Row)) (w : World) (h : LvAt w a n ls) (hs : Ch.lvSize ls ≤ 1048576) :
    Calls Try.prog 84 #[.slice a n cap, .int .i64 key] w fun e w' => e = .returned (.int .i64 (Ch.pairAsked ls key)) ∧ Below w.heap.size w w' := by
  have HL := h.len
  have hn : n ≤ 1048576 := by unfold Ch.lvSize at hs; have := HL.out; omega
  have FI := fun W hW => specLv_any a n cap ls W hW hs
  unfold Ch.pairAsked
  rw [← HL.out]
  cases hc : (Ch.leavesFault ls != 0)
  · have h0 : Ch.leavesFault ls = 0 := by simpa using hc
    rw [h0] at FI
    have II := fun W => in_any key 0 ((n : Int) - 2) W
    cases hb : Ch.inB key 0 ((n : Int) - 2)
    all_goals
      rw [hb] at II
      go_enter Try.func84, Try.ntmps84
      go_wp2_with fail
      refine (FI _ h).mono ?_
      rintro e w1 ⟨rfl, b1⟩
      go_wp2_with fail
      refine (II _).mono ?_
      rintro e w2 ⟨rfl, rfl⟩
      go_wp2
      go_ret
      exact ⟨rfl, b1⟩
  · generalize Ch.leavesFault ls = c at *
    go_enter Try.func84, Try.ntmps84
    go_wp2_with fail
    refine (FI _ h).mono ?_
    rintro e w1 ⟨rfl, b1⟩
    go_wp2
    go_ret
    exact ⟨rfl, b1⟩
end Go.Proofs.Ytofhkncdjjlllaa
