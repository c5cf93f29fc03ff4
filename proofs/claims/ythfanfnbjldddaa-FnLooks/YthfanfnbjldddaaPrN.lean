
/- slices.SortFunc of no edges. -/
import Derived.Test.YthfanfnbjldddaaPrX
namespace Go.Proofs.Ythfanfnbjldddaa
open Go.Shelf Go.RowKit Go.Maps Go.Lib Go.Sort

set_option maxHeartbeats 1000000 in
theorem insPN_any (p : Option Addr) (cap : Nat) (fv : Value) (w : World) : Calls Try.prog 139 #[.slice p 0 cap, .int .i64 0, .int .i64 0, fv] w fun e w' => e = .returned (.tuple #[]) ∧ w' = w := by
  go_enter Try.func139, Try.ntmps139
  go_wp2
  refine wp_loop_rounds 1 ?_
  rw [rounds_succ]
  go_wp2
  go_end0
  exact ⟨rfl, rfl⟩
set_option maxHeartbeats 2000000 in
theorem pdqPN_any (p : Option Addr) (cap : Nat) (lim : Int) (fv : Value) (w : World) : Calls Try.prog 124 #[.slice p 0 cap, .int .i64 0, .int .i64 0, .int .i64 lim, fv] w fun e w' => e = .returned (.tuple #[]) ∧ w' = w := by
  have hi := fun W => insPN_any p cap fv W
  go_enter Try.func124, Try.ntmps124
  go_wp2
  refine wp_loop_rounds 1 ?_
  rw [rounds_succ]
  go_wp2_with (go_at_call 139; refine (hi _).mono ?_; rintro e w' ⟨rfl, rfl⟩)
  (try simp only [Exit.inBlock, Exit.then]); refine bodyPost_ret (results_none rfl _ _ _) rfl ?_
  exact ⟨rfl, rfl⟩
set_option maxHeartbeats 2000000 in
theorem lenPN_any (w : World) : Calls Try.prog 125 #[.int .u64 0] w fun e w' => e = .returned (.int .i64 0) ∧ w' = w := by
  have h := Any.bits_Len (SlLaysF0.n15.bits (P := Try.prog) { Try.sortPairs with }) 0 w (by omega) (by omega)
  exact h
set_option maxHeartbeats 1000000 in
theorem sortPN_any (p : Option Addr) (cap : Nat) (fv : Value) (w : World) : Calls Try.prog 92 #[.slice p 0 cap, fv] w fun e w' => e = .returned (.tuple #[]) ∧ w' = w := by
  have hp := fun lim W => pdqPN_any p cap lim fv W
  have hl := fun W => lenPN_any W
  go_enter Try.func92, Try.ntmps92
  go_wp2_with (first | (go_at_call 125; refine (hl _).mono ?_; rintro e w' ⟨rfl, rfl⟩) | (go_at_call 124; refine (hp _ _).mono ?_; rintro e w' ⟨rfl, rfl⟩))
  go_end0
  exact ⟨rfl, rfl⟩
end Go.Proofs.Ythfanfnbjldddaa
