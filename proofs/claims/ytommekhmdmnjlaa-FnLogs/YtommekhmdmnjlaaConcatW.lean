
/- The library's Concat of two lists of bytes. -/
import Derived.Test.YtommekhmdmnjlaaCloneW
namespace Go.Proofs.Ytommekhmdmnjlaa
open Go.RowKit

theorem grow_any (k : Nat) (w : World) (hk : k ≤ 2097152) : Calls Try.prog 56 #[.slice none 0 0, .int .i64 k] w fun e w' => ∃ a' c', e = .returned (.slice a' 0 c') ∧ w'.ownsRow w.heap.size 5 1 (.slice a' 0 c') 0 [] ∧ Below w.heap.size w w' := by
  by_cases h0 : k = 0
  · subst h0
    refine (grow_zero w).mono ?_
    rintro e w' ⟨rfl, rfl⟩
    exact ⟨none, 0, rfl, World.ownsRow_nil _ _ _ _, Below.refl _ _⟩
  · exact grow_some k w (by omega) hk

set_option maxRecDepth 10000 in
set_option maxHeartbeats 2000000 in
theorem concat_any (g : Nat) (ad1 ad2 : Addr) (n1 n2 c1 c2 : Nat) (xs ys : List Int) (w : World) (p0 : w.cell? ⟨g, 0, none⟩ = some (.slice (some ad1) n1 c1)) (p1 : w.cell? ⟨g, 1, none⟩ = some (.slice (some ad2) n2 c2))
    (h1 : CellsAt w (some ad1) n1 (bts xs)) (h2 : CellsAt w (some ad2) n2 (bts ys)) (hn : n1 + n2 ≤ 2097152) :
    Calls Try.prog 35 #[.slice (some ⟨g, 0, none⟩) 2 2] w fun e w' => ∃ a' c', e = .returned (.slice a' (n1 + n2) c') ∧ w'.ownsRow w.heap.size 5 1 (.slice a' (n1 + n2) c') (n1 + n2) (bts (xs ++ ys)) ∧ Below w.heap.size w w' := by
  have hgA := grow_any (n1 + n2) w hn
  have cst : ((n1 + n2 : Nat) : Int) = (n1 : Int) + (n2 : Int) := by omega
  rw [cst] at hgA
  have z1 : ¬ (n1 : Int) < 0 := by omega
  have z2 : ¬ (n1 : Int) + (n2 : Int) < 0 := by omega
  have b1 : n1 ≤ 2097152 := by omega
  have b2 : n2 ≤ 2097152 := by omega
  have m1 : 0 + n1 ≤ 1099511627776 := by omega
  have m2 : n1 + n2 ≤ 1099511627776 := by omega
  clear hn cst
  go_enter Try.func35, Try.ntmps35
  go_wp2
  refine wp_loop_rounds 3 ?_
  rw [rounds_succ]
  go_wp2
  rw [rounds_succ]
  go_wp2
  rw [rounds_succ]
  go_wp2_with fail
  refine hgA.mono ?_
  clear hgA
  rintro e w1 ⟨a1, k1, rfl, o1, bb1⟩
  have q0 := keep_cell bb1 p0
  have q1 := keep_cell bb1 p1
  have hx1 := h1.below bb1
  have hs1 := bb1.size
  go_wp2
  refine wp_loop_rounds 3 ?_
  rw [rounds_succ]
  go_wp2_with (at_builtin; go_must (refine wpList_appV (.tmp 31) (.tmp 32) w.heap.size (.slice a1 0 k1) 0 [] n1 xs m1 ?_ ?_ ?_ ?_ ?_ ?_ ?_; exact rfl; exact rfl; exact rfl; exact ⟨_, _, rfl, hx1⟩; exact o1; exact hs1; intro a2 k2 w2 o2 bb2))
  simp only [Nat.zero_add, List.nil_append] at o2
  have bA := bb1.trans bb2
  have r0 := keep_cell bA p0
  have r1 := keep_cell bA p1
  have hx2 := h2.below bA
  have hs2 := bA.size
  clear o1 hx1 q0 q1 bb1 bb2
  rw [rounds_succ]
  go_wp2_with (at_builtin; go_must (refine wpList_appV (.tmp 31) (.tmp 32) w.heap.size (.slice a2 n1 k2) n1 (bts xs) n2 ys m2 ?_ ?_ ?_ ?_ ?_ ?_ ?_; exact rfl; exact rfl; exact rfl; exact ⟨_, _, rfl, hx2⟩; exact o2; exact hs2; intro a3 k3 w3 o3 bb3))
  rw [rounds_succ]
  go_wp2
  go_ret
  rw [← bts_append] at o3
  exact ⟨a3, k3, rfl, o3, bA.trans bb3⟩
end Go.Proofs.Ytommekhmdmnjlaa
