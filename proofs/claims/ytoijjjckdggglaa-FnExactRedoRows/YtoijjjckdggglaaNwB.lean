
/- The rows that a store is to begin with: faults; an answer with a code alone. -/
import Derived.Test.YtoijjjckdggglaaNwM
import Derived.Laws.StructEq
namespace Go.Proofs.Ytoijjjckdggglaa
open Go.RowKit

set_option maxHeartbeats 1000000 in
theorem implBase_any (a : Option Addr) (n cap : Nat) (rs : List Ch.Row) (w : World) (h : CellsAt w a (n * 3) (rcells rs)) (hn : n ≤ 1048576) :
    Calls Try.prog 32 #[.slice a n cap] w fun e w' => e = .returned (.int .i64 (Ch.baseF rs)) ∧ Below w.heap.size w w' := by
  have HL := h.rlen
  have IM := implMapOf_any a n cap rs w h hn
  obtain ⟨c, HC⟩ : ∃ c, Hid (Ch.mapF rs = c) := ⟨_, rfl⟩
  by_cases h0 : c = 0
  · subst h0
    rw [Ch.mapRR_ok HC.out] at IM
    dsimp only at IM
    by_cases hg : (Ch.noGhost rs).length < rs.length
    · rw [Ch.base_ghost HC.out hg]
      go_enter Try.func32, Try.ntmps32
      go_wp2_with fail
      refine IM.mono ?_
      rintro e w1 ⟨a1, m1, c1, rfl, hm1, o1, b1⟩
      have hm : (m1 : Int) < (n : Int) := by have := (owns_cells o1).rlen.out; have := HL.out; omega
      clear HC HL IM o1 hg
      go_wp2
      go_ret
      exact ⟨rfl, b1.alloc b1.size _⟩
    · rw [Ch.base_fine HC.out hg]
      go_enter Try.func32, Try.ntmps32
      go_wp2_with fail
      refine IM.mono ?_
      rintro e w1 ⟨a1, m1, c1, rfl, hm1, o1, b1⟩
      have hm : ¬ (m1 : Int) < (n : Int) := by have := (owns_cells o1).rlen.out; have := HL.out; omega
      clear HC HL IM o1 hg
      go_wp2
      go_ret
      exact ⟨rfl, b1.alloc b1.size _⟩
  · have hc : (c != 0) = true := by simpa using h0
    rw [Ch.mapRR_code HC.out hc] at IM
    rw [Ch.base_map HC.out hc]
    dsimp only at IM
    clear HC h0 HL
    go_enter Try.func32, Try.ntmps32
    go_wp2_with fail
    refine IM.mono ?_
    rintro e w1 ⟨a1, m1, c1, rfl, hm1, o1, b1⟩
    clear IM o1
    go_wp2
    go_ret
    exact ⟨rfl, b1.alloc b1.size _⟩

set_option maxHeartbeats 1000000 in
theorem specBase_any (a : Option Addr) (n cap : Nat) (rs : List Ch.Row) (w : World) (h : CellsAt w a (n * 3) (rcells rs)) (hn : n ≤ 1048576) :
    Calls Try.prog 27 #[.slice a n cap] w fun e w' => e = .returned (.int .i64 (Ch.baseF rs)) ∧ Below w.heap.size w w' := by
  have HL := h.rlen
  have IM := specMapOf_any a n cap rs w h hn
  obtain ⟨c, HC⟩ : ∃ c, Hid (Ch.mapF rs = c) := ⟨_, rfl⟩
  by_cases h0 : c = 0
  · subst h0
    rw [Ch.mapRR_ok HC.out] at IM
    dsimp only at IM
    by_cases hg : (Ch.noGhost rs).length < rs.length
    · rw [Ch.base_ghost HC.out hg]
      go_enter Try.func27, Try.ntmps27
      go_wp2_with fail
      refine IM.mono ?_
      rintro e w1 ⟨a1, m1, c1, rfl, hm1, o1, b1⟩
      have hm : ((m1 : Int) != (n : Int)) = true := by have := (owns_cells o1).rlen.out; have := HL.out; simp; omega
      clear HC HL IM o1 hg
      go_wp2
      go_ret
      exact ⟨rfl, b1.alloc b1.size _⟩
    · rw [Ch.base_fine HC.out hg]
      go_enter Try.func27, Try.ntmps27
      go_wp2_with fail
      refine IM.mono ?_
      rintro e w1 ⟨a1, m1, c1, rfl, hm1, o1, b1⟩
      have hm : ((m1 : Int) != (n : Int)) = false := by have := (owns_cells o1).rlen.out; have := HL.out; have := Ch.noGhost_len rs; simp; omega
      clear HC HL IM o1 hg
      go_wp2
      go_ret
      exact ⟨rfl, b1.alloc b1.size _⟩
  · have hc : (c != 0) = true := by simpa using h0
    rw [Ch.mapRR_code HC.out hc] at IM
    rw [Ch.base_map HC.out hc]
    dsimp only at IM
    clear HC h0 HL
    go_enter Try.func27, Try.ntmps27
    go_wp2_with fail
    refine IM.mono ?_
    rintro e w1 ⟨a1, m1, c1, rfl, hm1, o1, b1⟩
    clear IM o1
    go_wp2
    go_ret
    exact ⟨rfl, b1.alloc b1.size _⟩

end Go.Proofs.Ytoijjjckdggglaa
