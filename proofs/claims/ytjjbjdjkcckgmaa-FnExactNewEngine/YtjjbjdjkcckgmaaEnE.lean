
/- Engines of rows and leaves alone: the laws' functions on them. -/
import Derived.Test.YtjjbjdjkcckgmaaEnN
import Derived.Test.YtjjbjdjkcckgmaaLvS
import Derived.Test.YtjjbjdjkcckgmaaNwB
namespace Go.Proofs.Ytjjbjdjkcckgmaa
open Go.RowKit

set_option linter.unusedSimpArgs false in
set_option maxHeartbeats 2000000 in
theorem eqEngine_same (a a' l l' : Option Addr) (n m ca ca' cl cl' : Nat) (rs : List Ch.Row) (ls : List (List Ch.Row)) (w : World) (h : CellsAt w a (n * 3) (rcells rs)) (h' : CellsAt w a' (n * 3) (rcells rs)) (k : LvAt w l m ls) (k' : LvAt w l' m ls) (hn : n ≤ 1048576) (hs : Ch.lvSize ls ≤ 1048576) :
    Calls Try.prog 21 #[.agg #[.slice a n ca, .slice l m cl, .slice none 0 0, .slice none 0 0, .slice none 0 0, .slice none 0 0, .slice none 0 0, .bool false, .slice none 0 0, .slice none 0 0], .agg #[.slice a' n ca', .slice l' m cl', .slice none 0 0, .slice none 0 0, .slice none 0 0, .slice none 0 0, .slice none 0 0, .bool false, .slice none 0 0, .slice none 0 0]] w fun e w' => e = .returned (.bool true) ∧ Below w.heap.size w w' := by
  have b0 : Below w.heap.size w ((w.alloc (.cells #[.slice a n ca, .slice l m cl, .slice none 0 0, .slice none 0 0, .slice none 0 0, .slice none 0 0, .slice none 0 0, .bool false, .slice none 0 0, .slice none 0 0] 35)).alloc (.cells #[.slice a' n ca', .slice l' m cl', .slice none 0 0, .slice none 0 0, .slice none 0 0, .slice none 0 0, .slice none 0 0, .bool false, .slice none 0 0, .slice none 0 0] 35)) := ((Below.refl _ _).alloc (Nat.le_refl _) _).alloc (by simp) _
  go_enter Try.func21, Try.ntmps21
  go_wp2_with fail
  refine (eqRowS_same a a' n ca ca' rs _ (h.below b0) (h'.below b0) (by omega)).mono ?_
  rintro e w1 ⟨rfl, b1⟩
  have b1' := b0.trans (b1.mono (by simp; omega))
  obtain ⟨cA, fA⟩ := bcell b1
  have x1 := cA w.heap.size 1 (by simp; omega)
  have x2 := cA w.heap.size 2 (by simp; omega)
  have x3 := cA w.heap.size 3 (by simp; omega)
  have x4 := cA w.heap.size 4 (by simp; omega)
  have x5 := cA w.heap.size 5 (by simp; omega)
  have x6 := cA w.heap.size 6 (by simp; omega)
  have x7 := cA w.heap.size 7 (by simp; omega)
  have x8 := cA w.heap.size 8 (by simp; omega)
  have x9 := cA w.heap.size 9 (by simp; omega)
  have y1 := cA (w.heap.size + 1) 1 (by simp)
  have y2 := cA (w.heap.size + 1) 2 (by simp)
  have y3 := cA (w.heap.size + 1) 3 (by simp)
  have y4 := cA (w.heap.size + 1) 4 (by simp)
  have y5 := cA (w.heap.size + 1) 5 (by simp)
  have y6 := cA (w.heap.size + 1) 6 (by simp)
  have y7 := cA (w.heap.size + 1) 7 (by simp)
  have y8 := cA (w.heap.size + 1) 8 (by simp)
  have y9 := cA (w.heap.size + 1) 9 (by simp)
  clear cA fA b1
  simp [go_sem] at x1 x2 x3 x4 x5 x6 x7 x8 x9 y1 y2 y3 y4 y5 y6 y7 y8 y9
  go_wp2_with fail
  refine (eqLeafS_same l l' m cl cl' ls _ (k.below b1') (k'.below b1') hs).mono ?_
  rintro e w2 ⟨rfl, b2⟩
  have b2' := b1'.trans (b2.mono b1'.size)
  replace x2 := keep_cell b2 x2
  replace x3 := keep_cell b2 x3
  replace x4 := keep_cell b2 x4
  replace x5 := keep_cell b2 x5
  replace x6 := keep_cell b2 x6
  replace x7 := keep_cell b2 x7
  replace x8 := keep_cell b2 x8
  replace x9 := keep_cell b2 x9
  replace y2 := keep_cell b2 y2
  replace y3 := keep_cell b2 y3
  replace y4 := keep_cell b2 y4
  replace y5 := keep_cell b2 y5
  replace y6 := keep_cell b2 y6
  replace y7 := keep_cell b2 y7
  replace y8 := keep_cell b2 y8
  replace y9 := keep_cell b2 y9
  clear b2 b1' x1 y1
  go_wp2_with fail
  refine (eqLockS_nil _).mono ?_
  rintro e w' ⟨rfl, hw⟩
  obtain rfl := hw.symm
  clear hw
  go_wp2_with fail
  refine (eqTxnS_nil _).mono ?_
  rintro e w' ⟨rfl, hw⟩
  obtain rfl := hw.symm
  clear hw
  go_wp2_with fail
  refine (eqWal_nil _).mono ?_
  rintro e w3 ⟨rfl, b3⟩
  have b3' := b2'.trans (b3.mono b2'.size)
  replace x6 := keep_cell b3 x6
  replace x7 := keep_cell b3 x7
  replace x8 := keep_cell b3 x8
  replace x9 := keep_cell b3 x9
  replace y6 := keep_cell b3 y6
  replace y7 := keep_cell b3 y7
  replace y8 := keep_cell b3 y8
  replace y9 := keep_cell b3 y9
  clear b3 b2' x2 x3 x4 x5 y2 y3 y4 y5
  go_wp2_with fail
  refine (eqPairS_nil _).mono ?_
  rintro e w' ⟨rfl, hw⟩
  obtain rfl := hw.symm
  clear hw
  go_wp2_with fail
  refine (eqInt64S_nil _).mono ?_
  rintro e w' ⟨rfl, hw⟩
  obtain rfl := hw.symm
  clear hw
  go_wp2_with fail
  refine (eqActS_nil _).mono ?_
  rintro e w' ⟨rfl, hw⟩
  obtain rfl := hw.symm
  clear hw
  go_wp2
  go_ret
  exact ⟨rfl, b3'⟩

set_option linter.unusedSimpArgs false in
set_option maxHeartbeats 2000000 in
theorem eqEngineResult_same (c : Int) (a a' l l' : Option Addr) (n m ca ca' cl cl' : Nat) (rs : List Ch.Row) (ls : List (List Ch.Row)) (w : World) (h : CellsAt w a (n * 3) (rcells rs)) (h' : CellsAt w a' (n * 3) (rcells rs)) (k : LvAt w l m ls) (k' : LvAt w l' m ls) (hn : n ≤ 1048576) (hs : Ch.lvSize ls ≤ 1048576) :
    Calls Try.prog 8 #[.agg #[.int .i64 c, .bool false, .int .i64 0, .slice none 0 0, .slice none 0 0, .slice a n ca, .slice l m cl, .slice none 0 0, .slice none 0 0, .slice none 0 0, .slice none 0 0, .slice none 0 0, .bool false, .slice none 0 0, .slice none 0 0], .agg #[.int .i64 c, .bool false, .int .i64 0, .slice none 0 0, .slice none 0 0, .slice a' n ca', .slice l' m cl', .slice none 0 0, .slice none 0 0, .slice none 0 0, .slice none 0 0, .slice none 0 0, .bool false, .slice none 0 0, .slice none 0 0]] w fun e w' => e = .returned (.bool true) ∧ Below w.heap.size w w' := by
  have hcc : (c != c) = false := by simp
  have b0 : Below w.heap.size w ((w.alloc (.cells #[.int .i64 c, .bool false, .int .i64 0, .slice none 0 0, .slice none 0 0, .slice a n ca, .slice l m cl, .slice none 0 0, .slice none 0 0, .slice none 0 0, .slice none 0 0, .slice none 0 0, .bool false, .slice none 0 0, .slice none 0 0] 37)).alloc (.cells #[.int .i64 c, .bool false, .int .i64 0, .slice none 0 0, .slice none 0 0, .slice a' n ca', .slice l' m cl', .slice none 0 0, .slice none 0 0, .slice none 0 0, .slice none 0 0, .slice none 0 0, .bool false, .slice none 0 0, .slice none 0 0] 37)) := ((Below.refl _ _).alloc (Nat.le_refl _) _).alloc (by simp) _
  go_enter Try.func8, Try.ntmps8
  go_wp2_with (go_at_call 20; refine (eqInt64S_nil _).mono ?_; rintro e w' ⟨rfl, rfl⟩)
  refine (eqEngine_same a a' l l' n m ca ca' cl cl' rs ls _ (h.below b0) (h'.below b0) (k.below b0) (k'.below b0) hn hs).mono ?_
  rintro e w1 ⟨rfl, b1⟩
  go_wp2
  go_ret
  exact ⟨rfl, b0.trans (b1.mono (by simp; omega))⟩

end Go.Proofs.Ytjjbjdjkcckgmaa
