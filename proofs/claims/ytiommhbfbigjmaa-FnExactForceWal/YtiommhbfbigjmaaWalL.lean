/- Sizes, copies and comparisons of logs; the law FnExactWalFault. -/
import Derived.Test.YtiommhbfbigjmaaWalW
namespace Go.Proofs.Ytiommhbfbigjmaa
open Go.RowKit

theorem szB_ok (a : Option Addr) (n cap k : Nat) (w : World) (hk : k ≤ 1048576) (hn : n ≤ k) :
    Calls Try.prog 77 #[.slice a n cap, .int .i64 k] w fun e w' => e = .returned (.int .i64 (k - n)) ∧ w' = w := by
  have h1 : ¬ (k : Int) - (n : Int) < 0 := by omega
  go_enter Try.func77, Try.ntmps77
  go_wp2
  go_ret
  exact ⟨rfl, rfl⟩

theorem szB_big (a : Option Addr) (n cap k : Nat) (w : World) (hk : k ≤ 1048576) (hn : k < n) (hm : n ≤ 9223372036854775807) :
    Calls Try.prog 77 #[.slice a n cap, .int .i64 k] w fun e w' => e = .returned (.int .i64 (-1)) ∧ w' = w := by
  have h1 : (k : Int) - (n : Int) < 0 := by omega
  go_enter Try.func77, Try.ntmps77
  go_wp2
  go_ret
  exact ⟨rfl, rfl⟩

/-- A log that is not too great. -/
def Small (n m : Nat) : Prop := n + m ≤ 1048576

set_option maxHeartbeats 400000 in
theorem szWal_ok (a a' : Option Addr) (n m cap cap' : Nat) (w : World) (hs : Small n m) :
    Calls Try.prog 37 #[.agg #[.slice a n cap, .slice a' m cap'], .int .i64 1048576] w fun e w' => e = .returned (.int .i64 (1048576 - n - m)) ∧ Below w.heap.size w w' := by
  have hn : n ≤ 1048576 := by unfold Small at hs; omega
  have hm : m ≤ 1048576 - n := by unfold Small at hs; omega
  have c1 : ((1048576 - n : Nat) : Int) = 1048576 - (n : Int) := by omega
  have s1 := szB_ok a n cap 1048576 (w.alloc (.cells #[.slice a n cap, .slice a' m cap'] 56)) (by omega) hn
  have s2 := szB_ok a' m cap' (1048576 - n) (w.alloc (.cells #[.slice a n cap, .slice a' m cap'] 56)) (by omega) hm
  rw [c1] at s2
  have n1 : ¬ (1048576 : Int) - (n : Int) < 0 := by omega
  have n2 : ¬ (1048576 : Int) - (n : Int) - (m : Int) < 0 := by omega
  clear c1 hs
  go_enter Try.func37, Try.ntmps37
  go_wp2_with fail
  refine s1.mono ?_
  rintro e w1 ⟨rfl, hw1⟩
  subst w1
  go_wp2_with fail
  refine s2.mono ?_
  rintro e w1 ⟨rfl, hw1⟩
  subst w1
  go_wp2
  go_ret
  exact ⟨rfl, (Below.refl _ _).alloc (Nat.le_refl _) _⟩

set_option maxHeartbeats 400000 in
theorem szWal_big (a a' : Option Addr) (n m cap cap' : Nat) (w : World) (hs : ¬ Small n m) (hn : n ≤ 9223372036854775807) (hm : m ≤ 9223372036854775807) :
    Calls Try.prog 37 #[.agg #[.slice a n cap, .slice a' m cap'], .int .i64 1048576] w fun e w' => e = .returned (.int .i64 (-1)) ∧ Below w.heap.size w w' := by
  by_cases hb : 1048576 < n
  · have s1 := szB_big a n cap 1048576 (w.alloc (.cells #[.slice a n cap, .slice a' m cap'] 56)) (by omega) hb hn
    clear hs
    go_enter Try.func37, Try.ntmps37
    go_wp2_with fail
    refine s1.mono ?_
    rintro e w1 ⟨rfl, hw1⟩
    subst w1
    go_wp2
    go_ret
    exact ⟨rfl, (Below.refl _ _).alloc (Nat.le_refl _) _⟩
  · have hb' : n ≤ 1048576 := by omega
    have hm2 : 1048576 - n < m := by unfold Small at hs; omega
    have c1 : ((1048576 - n : Nat) : Int) = 1048576 - (n : Int) := by omega
    have s1 := szB_ok a n cap 1048576 (w.alloc (.cells #[.slice a n cap, .slice a' m cap'] 56)) (by omega) hb'
    have s2 := szB_big a' m cap' (1048576 - n) (w.alloc (.cells #[.slice a n cap, .slice a' m cap'] 56)) (by omega) hm2 hm
    rw [c1] at s2
    have n1 : ¬ (1048576 : Int) - (n : Int) < 0 := by omega
    clear c1 hs
    go_enter Try.func37, Try.ntmps37
    go_wp2_with fail
    refine s1.mono ?_
    rintro e w1 ⟨rfl, hw1⟩
    subst w1
    go_wp2_with fail
    refine s2.mono ?_
    rintro e w1 ⟨rfl, hw1⟩
    subst w1
    go_wp2
    go_ret
    exact ⟨rfl, (Below.refl _ _).alloc (Nat.le_refl _) _⟩

set_option linter.unusedSimpArgs false in
set_option maxHeartbeats 1000000 in
theorem toWal_any (a a' : Option Addr) (n m cap cap' : Nat) (ss ls : List Int) (w : World) (h : CellsAt w a n (bts ss)) (h' : CellsAt w a' m (bts ls)) (hn : n ≤ 1048576) (hm : m ≤ 1048576) :
    Calls Try.prog 39 #[.agg #[.slice a n cap, .slice a' m cap']] w fun e w' => ∃ g1 g2, e = .returned (.agg #[.slice (some ⟨g1, 0, none⟩) n n, .slice (some ⟨g2, 0, none⟩) m m]) ∧
      w'.ownsRow w.heap.size 5 1 (.slice (some ⟨g1, 0, none⟩) n n) n (bts ss) ∧ w'.ownsRow w.heap.size 5 1 (.slice (some ⟨g2, 0, none⟩) m m) m (bts ls) ∧ g1 < g2 ∧ Below w.heap.size w w' := by
  have b0 : Below w.heap.size w (((w.alloc (.cells #[.slice a n cap, .slice a' m cap'] 56)).alloc (.cells #[.slice none 0 0, .slice none 0 0] 37)).alloc (.cells #[.slice none 0 0, .slice none 0 0] 37)) := by
    refine Below.alloc (Below.alloc (Below.alloc (Below.refl _ w) (Nat.le_refl _) _) ?_ _) ?_ _
    · simp
    · simp; omega
  go_enter Try.func39, Try.ntmps39
  go_wp2_with fail
  refine (toByteS_at (w.heap.size + 3) a n cap ss _ (by simp) (h.below b0) (by omega)).mono ?_
  rintro e w1 ⟨rfl, o1, b1⟩
  have b1' := b0.trans (b1.mono b0.size)
  have hz1 := (owns_bounds o1).2
  obtain ⟨cA, fA⟩ := bcell b1
  have x1 := cA w.heap.size 1 (by simp; omega)
  have y0 := cA (w.heap.size + 1) 0 (by simp)
  have y1 := cA (w.heap.size + 1) 1 (by simp)
  have z0 := cA (w.heap.size + 2) 0 (by simp)
  have z1 := cA (w.heap.size + 2) 1 (by simp)
  have fy0 := fA (w.heap.size + 1) 0 (by simp)
  have fy1 := fA (w.heap.size + 1) 1 (by simp)
  have fz0 := fA (w.heap.size + 2) 0 (by simp)
  have fz1 := fA (w.heap.size + 2) 1 (by simp)
  clear cA fA
  simp [go_sem] at x1 y0 y1 z0 z1 fy0 fy1 fz0 fz1
  have hz : w.heap.size + 3 < w1.heap.size := hz1
  have bS : Below w.heap.size w (w1.setCell ⟨w.heap.size + 2, 0, none⟩ (.slice (some ⟨w.heap.size + 3, 0, none⟩) n n)) := b1'.setCell (p := ⟨w.heap.size + 2, 0, none⟩) (by simp) _
  have oS := ownsRow_setCell_below (a := ⟨w.heap.size + 2, 0, none⟩) o1 (by simp) (.slice (some ⟨w.heap.size + 3, 0, none⟩) n n)
  have tB := toByteS_at w1.heap.size a' m cap' ls (w1.setCell ⟨w.heap.size + 2, 0, none⟩ (.slice (some ⟨w.heap.size + 3, 0, none⟩) n n)) (by simp) (h'.below bS) (by omega)
  go_wp2_with fail
  refine tB.mono ?_
  clear tB
  rintro e w2 ⟨rfl, o2, b2⟩
  have b2' := bS.trans (b2.mono bS.size)
  have oA := owns_below oS b2
  obtain ⟨cB, fB⟩ := bcell b2
  replace y0 := (cB (w.heap.size + 1) 0 (by simp; omega)).trans ((World.cell?_setCell_other _ _ _ _ (by simp)).trans y0)
  replace y1 := (cB (w.heap.size + 1) 1 (by simp; omega)).trans ((World.cell?_setCell_other _ _ _ _ (by simp)).trans y1)
  have z0' := (cB (w.heap.size + 2) 0 (by simp; omega)).trans (World.cell?_setCell_same' _ _ _ (by rw [z0]; rfl))
  replace z1 := (cB (w.heap.size + 2) 1 (by simp; omega)).trans ((World.cell?_setCell_other _ _ _ _ (by simp)).trans z1)
  replace fy0 := (fB (w.heap.size + 1) 0 (by simp; omega)).trans ((World.frozen?_setCell _ _ _ _).trans fy0)
  replace fy1 := (fB (w.heap.size + 1) 1 (by simp; omega)).trans ((World.frozen?_setCell _ _ _ _).trans fy1)
  replace fz1 := (fB (w.heap.size + 2) 1 (by simp; omega)).trans ((World.frozen?_setCell _ _ _ _).trans fz1)
  have hz2 := (owns_bounds o2).2
  clear cB fB z0 fz0 b2 oS bS o1 b1 b1' x1
  go_wp2
  refine bodyPost_ret (v := .agg #[.slice (some ⟨w.heap.size + 3, 0, none⟩) n n, .slice (some ⟨w1.heap.size, 0, none⟩) m m]) (by simp [results, Try.results39, go_sem, y0, y1]) rfl ⟨w.heap.size + 3, w1.heap.size, rfl, ?_, ?_, hz, ?_⟩
  · exact owns_base (ownsRow_setCell_below (ownsRow_setCell_below (ownsRow_setCell_below oA (by simp) _) (by simp) _) (by simp) _) (by omega)
  · exact owns_base (ownsRow_setCell_below (ownsRow_setCell_below (ownsRow_setCell_below o2 (by simp; omega) _) (by simp; omega) _) (by simp; omega) _) (by omega)
  · exact ((b2'.setCell (p := ⟨w.heap.size + 1 + 1, 1, none⟩) (by simp; omega) _).setCell (p := ⟨w.heap.size + 1, 0, none⟩) (by simp) _).setCell (p := ⟨w.heap.size + 1, 1, none⟩) (by simp) _

set_option maxHeartbeats 400000 in
theorem eqWal_same (a a' b b' : Option Addr) (n m c1 c2 c3 c4 : Nat) (ss ls : List Int) (w : World) (h : CellsAt w a n (bts ss)) (h' : CellsAt w a' m (bts ls)) (k : CellsAt w b n (bts ss)) (k' : CellsAt w b' m (bts ls)) (hn : n ≤ 1099511627776) (hm : m ≤ 1099511627776) :
    Calls Try.prog 40 #[.agg #[.slice a n c1, .slice a' m c2], .agg #[.slice b n c3, .slice b' m c4]] w fun e w' => e = .returned (.bool true) ∧ Below w.heap.size w w' := by
  have b0 : Below w.heap.size w ((w.alloc (.cells #[.slice a n c1, .slice a' m c2] 37)).alloc (.cells #[.slice b n c3, .slice b' m c4] 37)) := ((Below.refl _ _).alloc (Nat.le_refl _) _).alloc (by simp) _
  go_enter Try.func40, Try.ntmps40
  go_wp2_with fail
  refine (eqByteS_same a b n c1 c3 ss _ (h.below b0) (k.below b0) hn).mono ?_
  rintro e w1 ⟨rfl, b1⟩
  have b1' := b0.trans (b1.mono (by simp; omega))
  obtain ⟨cA, fA⟩ := bcell b1
  have x1 := cA w.heap.size 1 (by simp; omega)
  have y1 := cA (w.heap.size + 1) 1 (by simp)
  clear cA fA
  simp at x1 y1
  go_wp2_with fail
  refine (eqByteS_same a' b' m c2 c4 ls _ (h'.below b1') (k'.below b1') hm).mono ?_
  rintro e w2 ⟨rfl, b2⟩
  go_wp2
  go_ret
  exact ⟨rfl, b1'.trans (b2.mono b1'.size)⟩

set_option linter.unusedSimpArgs false in
set_option maxHeartbeats 1000000 in
theorem lawWal_any (a a' : Option Addr) (n m cap cap' : Nat) (ss ls : List Int) (w : World) (h : CellsAt w a n (bts ss)) (h' : CellsAt w a' m (bts ls)) (hb : IsB ss) (hb' : IsB ls) (hn : n ≤ 9223372036854775807) (hm : m ≤ 9223372036854775807) :
    Calls Try.prog 8 #[.agg #[.slice a n cap, .slice a' m cap']] w fun e w' => e = .returned (.bool true) ∧ Below w.heap.size w w' := by
  by_cases hs : Small n m
  · have hn' : n ≤ 1048576 := by unfold Small at hs; omega
    have hm' : m ≤ 1048576 := by unfold Small at hs; omega
    have n2 : ¬ (1048576 : Int) - (n : Int) - (m : Int) < 0 := by unfold Small at hs; omega
    have b0 : Below w.heap.size w (w.alloc (.cells #[.slice a n cap, .slice a' m cap'] 56)) := (Below.refl _ _).alloc (Nat.le_refl _) _
    go_enter Try.func8, Try.ntmps8
    go_wp2_with fail
    refine (szWal_ok a a' n m cap cap' _ hs).mono ?_
    clear hs
    rintro e w0 ⟨rfl, bz⟩
    obtain ⟨x0, x1⟩ := box2 bz
    go_wp2_with fail
    refine (toWal_any a a' n m cap cap' ss ls _ (h.below (below_box bz)) (h'.below (below_box bz)) hn' hm').mono ?_
    rintro e w1 ⟨g1, g2, rfl, o1, o2, hg, b1⟩
    have b1A := bz.trans (b1.mono bz.size)
    go_wp2_with fail
    refine (specWal_any _ _ n m n m ss ls _ (owns_bytes o1) (owns_bytes o2) hb hb' hn' hm' (Nat.le_refl _) (Nat.le_refl _)).mono ?_
    rintro e w2 ⟨rfl, b2⟩
    have b2A := b1A.trans (b2.mono b1A.size)
    obtain ⟨y0, y1⟩ := box2 b2A
    have lt2 := lt_of_cell y0
    clear o1 o2 b1 b2 b1A bz x0 x1
    generalize hfc : Ch.walFault ss ls = fc at *
    go_wp2_with fail
    refine (toWal_any a a' n m cap cap' ss ls _ (h.below (below_box b2A)) (h'.below (below_box b2A)) hn' hm').mono ?_
    rintro e w3 ⟨g3, g4, rfl, o3, o4, hg', b3⟩
    have b3A := b2A.trans (b3.mono b2A.size)
    go_wp2_with fail
    refine (implWal_any _ _ n m n m ss ls _ (owns_bytes (o3.alloc _)) (owns_bytes (o4.alloc _)) hb hb' hn' hm' (Nat.le_refl _) (Nat.le_refl _)).mono ?_
    rw [hfc]
    rintro e w4 ⟨rfl, b4⟩
    obtain ⟨x0, x1⟩ := box2 b4
    have b4 := below_box b4
    have o3 := owns_below o3 b4
    have o4 := owns_below o4 b4
    have b4A := b3A.trans (b4.mono b3A.size)
    obtain ⟨y0, y1⟩ := box2 b4A
    have bA := below_box b4A
    have hcc : (fc != fc) = false := by simp
    clear b3 b3A b4 b4A b2A
    go_wp2_with fail
    have HS : Hid (∀ W', Below w4.heap.size w4 W' → W'.cell? ⟨w3.heap.size, 0, none⟩ = some (.slice (some ⟨g3, 0, none⟩) n n) ∧ W'.cell? ⟨w3.heap.size, 1, none⟩ = some (.slice (some ⟨g4, 0, none⟩) m m) ∧ W'.cell? ⟨w.heap.size, 0, none⟩ = some (.slice a n cap) ∧ W'.cell? ⟨w.heap.size, 1, none⟩ = some (.slice a' m cap') ∧ Below w4.heap.size w4 W') := fun W' hb' => ⟨keep_cell hb' x0, keep_cell hb' x1, keep_cell hb' y0, keep_cell hb' y1, hb'⟩
    refine wp_region_noPanic ?_
    refine wp_region_held_drew (S := fun W' => W'.cell? ⟨w3.heap.size, 0, none⟩ = some (.slice (some ⟨g3, 0, none⟩) n n) ∧ W'.cell? ⟨w3.heap.size, 1, none⟩ = some (.slice (some ⟨g4, 0, none⟩) m m) ∧ W'.cell? ⟨w.heap.size, 0, none⟩ = some (.slice a n cap) ∧ W'.cell? ⟨w.heap.size, 1, none⟩ = some (.slice a' m cap') ∧ Below w4.heap.size w4 W') (by kernel_rfl) (HS.out _ (Below.refl _ _).drew) (fun hH => ?_)
    refine hTake (i := 0) (v := ?_) rfl (by kernel_rfl) (by kernel_rfl) (by kernel_rfl) (by rfl) ?_ hH ?_
    rotate_left
    · intro W hW; (try dsimp only at hW); go_simp <;> with_reducible rfl
    simp only [Act.put, List.setIfInBounds_toArray, List.set_cons_zero, List.set_cons_succ]
    refine hTake (i := 1) (v := ?_) rfl (by kernel_rfl) (by kernel_rfl) (by kernel_rfl) (by rfl) ?_ hH ?_
    rotate_left
    · intro W hW; (try dsimp only at hW); go_simp <;> with_reducible rfl
    simp only [Act.put, List.setIfInBounds_toArray, List.set_cons_zero, List.set_cons_succ]
    refine wpAnyH_ready (rs := [2]) (by kernel_rfl) (by simp) ?_
    refine AllReadyH.cons rfl (fun K hK => ?_) AllReadyH.nil
    go_simp
    refine (toWal_any a a' n m cap cap' ss ls _ (h.below (bA.trans (hH.2.2.2.2.mono bA.size))) (h'.below (bA.trans (hH.2.2.2.2.mono bA.size))) hn' hm').mono ?_
    rintro e w5 ⟨g5, g6, rfl, o5, o6, hg5, b5⟩
    have b5A := hH.2.2.2.2.trans (b5.mono (by simp))
    go_wp2_with fail
    refine hK.out _ _ ?_ (fun hH => ?_)
    · exact HS.out _ b5A
    clear hK K
    refine wpAnyH_ready (rs := [3]) (by kernel_rfl) (by simp) ?_
    refine AllReadyH.cons rfl (fun K hK => ?_) AllReadyH.nil
    go_simp
    refine (eqWal_same _ _ _ _ n m n m n m ss ls _ (owns_bytes (owns_below o3 b5A)) (owns_bytes (owns_below o4 b5A)) (owns_bytes o5) (owns_bytes o6) (by omega) (by omega)).mono ?_
    rintro e w6 ⟨rfl, b6⟩
    have b6A := b5A.trans (b6.mono b5A.size)
    go_wp2_with fail
    refine hK.out _ _ ?_ (fun hH => ?_)
    · exact HS.out _ b6A
    clear hK K
    refine hTake (i := 4) (v := ?_) rfl (by kernel_rfl) (by kernel_rfl) (by kernel_rfl) (by rfl) ?_ hH ?_
    rotate_left
    · intro W hW; (try dsimp only at hW); go_simp <;> with_reducible rfl
    simp only [Act.put, List.setIfInBounds_toArray, List.set_cons_zero, List.set_cons_succ]
    refine wpAnyH_done (by kernel_rfl) ?_ _
    refine NoPanic.normal ?_
    have bF := bA.trans (b6A.mono bA.size)
    clear hH HS
    go_wp2
    go_ret
    exact ⟨rfl, bF⟩
  · go_enter Try.func8, Try.ntmps8
    go_wp2_with fail
    refine (szWal_big a a' n m cap cap' _ hs hn hm).mono ?_
    rintro e w0 ⟨rfl, bz⟩
    go_wp2
    go_ret
    exact ⟨rfl, below_box bz⟩
end Go.Proofs.Ytiommhbfbigjmaa
