
/- Sizes, copies and comparisons of logs; the law FnExactWalFault. -/
import Derived.Test.YtapahapjajijeaaWalW
namespace Go.Proofs.Ytapahapjajijeaa
open Go.RowKit

theorem szB_ok (a : Option Addr) (n cap k : Nat) (w : World) (hk : k ≤ 1048576) (hn : n ≤ k) :
    Calls Try.prog 106 #[.slice a n cap, .int .i64 k] w fun e w' => e = .returned (.int .i64 (k - n)) ∧ w' = w := by
  have h1 : ¬ (k : Int) - (n : Int) < 0 := by omega
  go_enter Try.func106, Try.ntmps106
  go_wp2
  go_ret
  exact ⟨rfl, rfl⟩

theorem szB_big (a : Option Addr) (n cap k : Nat) (w : World) (hk : k ≤ 1048576) (hn : k < n) (hm : n ≤ 9223372036854775807) :
    Calls Try.prog 106 #[.slice a n cap, .int .i64 k] w fun e w' => e = .returned (.int .i64 (-1)) ∧ w' = w := by
  have h1 : (k : Int) - (n : Int) < 0 := by omega
  go_enter Try.func106, Try.ntmps106
  go_wp2
  go_ret
  exact ⟨rfl, rfl⟩

/-- A log that is not too great. -/
def Small (n m : Nat) : Prop := n + m ≤ 1048576

set_option maxHeartbeats 400000 in
theorem szWal_ok (a a' : Option Addr) (n m cap cap' : Nat) (w : World) (hs : Small n m) :
    Calls Try.prog 36 #[.agg #[.slice a n cap, .slice a' m cap'], .int .i64 1048576] w fun e w' => e = .returned (.int .i64 (1048576 - n - m)) ∧ Below w.heap.size w w' := by
  have hn : n ≤ 1048576 := by unfold Small at hs; omega
  have hm : m ≤ 1048576 - n := by unfold Small at hs; omega
  have c1 : ((1048576 - n : Nat) : Int) = 1048576 - (n : Int) := by omega
  have s1 := szB_ok a n cap 1048576 (w.alloc (.cells #[.slice a n cap, .slice a' m cap'] 66)) (by omega) hn
  have s2 := szB_ok a' m cap' (1048576 - n) (w.alloc (.cells #[.slice a n cap, .slice a' m cap'] 66)) (by omega) hm
  rw [c1] at s2
  have n1 : ¬ (1048576 : Int) - (n : Int) < 0 := by omega
  have n2 : ¬ (1048576 : Int) - (n : Int) - (m : Int) < 0 := by omega
  clear c1 hs
  go_enter Try.func36, Try.ntmps36
  go_wp2_with fail
  refine s1.mono ?_
  rintro e w1 ⟨rfl, hw1⟩
  subst w1
  go_wp2_with fail
  refine s2.mono ?_
  rintro e w1 ⟨rfl, hw1⟩
  subst w1
  go_wp2
  go_ret
  exact ⟨rfl, (Below.refl _ _).alloc (Nat.le_refl _) _⟩

set_option maxHeartbeats 400000 in
theorem szWal_big (a a' : Option Addr) (n m cap cap' : Nat) (w : World) (hs : ¬ Small n m) (hn : n ≤ 9223372036854775807) (hm : m ≤ 9223372036854775807) :
    Calls Try.prog 36 #[.agg #[.slice a n cap, .slice a' m cap'], .int .i64 1048576] w fun e w' => e = .returned (.int .i64 (-1)) ∧ Below w.heap.size w w' := by
  by_cases hb : 1048576 < n
  · have s1 := szB_big a n cap 1048576 (w.alloc (.cells #[.slice a n cap, .slice a' m cap'] 66)) (by omega) hb hn
    clear hs
    go_enter Try.func36, Try.ntmps36
    go_wp2_with fail
    refine s1.mono ?_
    rintro e w1 ⟨rfl, hw1⟩
    subst w1
    go_wp2
    go_ret
    exact ⟨rfl, (Below.refl _ _).alloc (Nat.le_refl _) _⟩
  · have hb' : n ≤ 1048576 := by omega
    have hm2 : 1048576 - n < m := by unfold Small at hs; omega
    have c1 : ((1048576 - n : Nat) : Int) = 1048576 - (n : Int) := by omega
    have s1 := szB_ok a n cap 1048576 (w.alloc (.cells #[.slice a n cap, .slice a' m cap'] 66)) (by omega) hb'
    have s2 := szB_big a' m cap' (1048576 - n) (w.alloc (.cells #[.slice a n cap, .slice a' m cap'] 66)) (by omega) hm2 hm
    rw [c1] at s2
    have n1 : ¬ (1048576 : Int) - (n : Int) < 0 := by omega
    clear c1 hs
    go_enter Try.func36, Try.ntmps36
    go_wp2_with fail
    refine s1.mono ?_
    rintro e w1 ⟨rfl, hw1⟩
    subst w1
    go_wp2_with fail
    refine s2.mono ?_
    rintro e w1 ⟨rfl, hw1⟩
    subst w1
    go_wp2
    go_ret
    exact ⟨rfl, (Below.refl _ _).alloc (Nat.le_refl _) _⟩

set_option linter.unusedSimpArgs false in
set_option maxHeartbeats 1000000 in
theorem toWal_any (a a' : Option Addr) (n m cap cap' : Nat) (ss ls : List Int) (w : World) (h : CellsAt w a n (bts ss)) (h' : CellsAt w a' m (bts ls)) (hn : n ≤ 1048576) (hm : m ≤ 1048576) :
    Calls Try.prog 38 #[.agg #[.slice a n cap, .slice a' m cap']] w fun e w' => ∃ g1 g2, e = .returned (.agg #[.slice (some ⟨g1, 0, none⟩) n n, .slice (some ⟨g2, 0, none⟩) m m]) ∧
      w'.ownsRow w.heap.size 5 1 (.slice (some ⟨g1, 0, none⟩) n n) n (bts ss) ∧ w'.ownsRow w.heap.size 5 1 (.slice (some ⟨g2, 0, none⟩) m m) m (bts ls) ∧ g1 < g2 ∧ Below w.heap.size w w' := by
  have b0 : Below w.heap.size w (((w.alloc (.cells #[.slice a n cap, .slice a' m cap'] 66)).alloc (.cells #[.slice none 0 0, .slice none 0 0] 37)).alloc (.cells #[.slice none 0 0, .slice none 0 0] 37)) := by
    refine Below.alloc (Below.alloc (Below.alloc (Below.refl _ w) (Nat.le_refl _) _) ?_ _) ?_ _
    · simp
    · simp; omega
  go_enter Try.func38, Try.ntmps38
  go_wp2_with fail
  refine (toByteS_at (w.heap.size + 3) a n cap ss _ (by simp) (h.below b0) (by omega)).mono ?_
  rintro e w1 ⟨rfl, o1, b1⟩
  have b1' := b0.trans (b1.mono b0.size)
  have hz1 := (owns_bounds o1).2
  obtain ⟨cA, fA⟩ := bcell b1
  have x1 := cA w.heap.size 1 (by simp; omega)
  have y0 := cA (w.heap.size + 1) 0 (by simp)
  have y1 := cA (w.heap.size + 1) 1 (by simp)
  have z0 := cA (w.heap.size + 2) 0 (by simp)
  have z1 := cA (w.heap.size + 2) 1 (by simp)
  have fy0 := fA (w.heap.size + 1) 0 (by simp)
  have fy1 := fA (w.heap.size + 1) 1 (by simp)
  have fz0 := fA (w.heap.size + 2) 0 (by simp)
  have fz1 := fA (w.heap.size + 2) 1 (by simp)
  clear cA fA
  simp [go_sem] at x1 y0 y1 z0 z1 fy0 fy1 fz0 fz1
  have hz : w.heap.size + 3 < w1.heap.size := hz1
  have bS : Below w.heap.size w (w1.setCell ⟨w.heap.size + 2, 0, none⟩ (.slice (some ⟨w.heap.size + 3, 0, none⟩) n n)) := b1'.setCell (p := ⟨w.heap.size + 2, 0, none⟩) (by simp) _
  have oS := ownsRow_setCell_below (a := ⟨w.heap.size + 2, 0, none⟩) o1 (by simp) (.slice (some ⟨w.heap.size + 3, 0, none⟩) n n)
  have tB := toByteS_at w1.heap.size a' m cap' ls (w1.setCell ⟨w.heap.size + 2, 0, none⟩ (.slice (some ⟨w.heap.size + 3, 0, none⟩) n n)) (by simp) (h'.below bS) (by omega)
  go_wp2_with fail
  refine tB.mono ?_
  clear tB
  rintro e w2 ⟨rfl, o2, b2⟩
  have b2' := bS.trans (b2.mono bS.size)
  have oA := owns_below oS b2
  obtain ⟨cB, fB⟩ := bcell b2
  replace y0 := (cB (w.heap.size + 1) 0 (by simp; omega)).trans ((World.cell?_setCell_other _ _ _ _ (by simp)).trans y0)
  replace y1 := (cB (w.heap.size + 1) 1 (by simp; omega)).trans ((World.cell?_setCell_other _ _ _ _ (by simp)).trans y1)
  have z0' := (cB (w.heap.size + 2) 0 (by simp; omega)).trans (World.cell?_setCell_same' _ _ _ (by rw [z0]; rfl))
  replace z1 := (cB (w.heap.size + 2) 1 (by simp; omega)).trans ((World.cell?_setCell_other _ _ _ _ (by simp)).trans z1)
  replace fy0 := (fB (w.heap.size + 1) 0 (by simp; omega)).trans ((World.frozen?_setCell _ _ _ _).trans fy0)
  replace fy1 := (fB (w.heap.size + 1) 1 (by simp; omega)).trans ((World.frozen?_setCell _ _ _ _).trans fy1)
  replace fz1 := (fB (w.heap.size + 2) 1 (by simp; omega)).trans ((World.frozen?_setCell _ _ _ _).trans fz1)
  have hz2 := (owns_bounds o2).2
  clear cB fB z0 fz0 b2 oS bS o1 b1 b1' x1
  go_wp2
  refine bodyPost_ret (v := .agg #[.slice (some ⟨w.heap.size + 3, 0, none⟩) n n, .slice (some ⟨w1.heap.size, 0, none⟩) m m]) (by simp [results, Try.results38, go_sem, y0, y1]) rfl ⟨w.heap.size + 3, w1.heap.size, rfl, ?_, ?_, hz, ?_⟩
  · exact owns_base (ownsRow_setCell_below (ownsRow_setCell_below (ownsRow_setCell_below oA (by simp) _) (by simp) _) (by simp) _) (by omega)
  · exact owns_base (ownsRow_setCell_below (ownsRow_setCell_below (ownsRow_setCell_below o2 (by simp; omega) _) (by simp; omega) _) (by simp; omega) _) (by omega)
  · exact ((b2'.setCell (p := ⟨w.heap.size + 1 + 1, 1, none⟩) (by simp; omega) _).setCell (p := ⟨w.heap.size + 1, 0, none⟩) (by simp) _).setCell (p := ⟨w.heap.size + 1, 1, none⟩) (by simp) _

set_option maxHeartbeats 400000 in
theorem eqWal_same (a a' b b' : Option Addr) (n m c1 c2 c3 c4 : Nat) (ss ls : List Int) (w : World) (h : CellsAt w a n (bts ss)) (h' : CellsAt w a' m (bts ls)) (k : CellsAt w b n (bts ss)) (k' : CellsAt w b' m (bts ls)) (hn : n ≤ 1099511627776) (hm : m ≤ 1099511627776) :
    Calls Try.prog 41 #[.agg #[.slice a n c1, .slice a' m c2], .agg #[.slice b n c3, .slice b' m c4]] w fun e w' => e = .returned (.bool true) ∧ Below w.heap.size w w' := by
  have b0 : Below w.heap.size w ((w.alloc (.cells #[.slice a n c1, .slice a' m c2] 37)).alloc (.cells #[.slice b n c3, .slice b' m c4] 37)) := ((Below.refl _ _).alloc (Nat.le_refl _) _).alloc (by simp) _
  go_enter Try.func41, Try.ntmps41
  go_wp2_with fail
  refine (eqByteS_same a b n c1 c3 ss _ (h.below b0) (k.below b0) hn).mono ?_
  rintro e w1 ⟨rfl, b1⟩
  have b1' := b0.trans (b1.mono (by simp; omega))
  obtain ⟨cA, fA⟩ := bcell b1
  have x1 := cA w.heap.size 1 (by simp; omega)
  have y1 := cA (w.heap.size + 1) 1 (by simp)
  clear cA fA
  simp at x1 y1
  go_wp2_with fail
  refine (eqByteS_same a' b' m c2 c4 ls _ (h'.below b1') (k'.below b1') hm).mono ?_
  rintro e w2 ⟨rfl, b2⟩
  go_wp2
  go_ret
  exact ⟨rfl, b1'.trans (b2.mono b1'.size)⟩

end Go.Proofs.Ytapahapjajijeaa
