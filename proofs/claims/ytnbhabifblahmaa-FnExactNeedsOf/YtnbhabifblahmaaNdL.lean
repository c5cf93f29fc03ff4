
/- The law FnExactNeedsOf. -/
import Derived.Test.YtnbhabifblahmaaNdS
namespace Go.Proofs.Ytnbhabifblahmaa
open Go.RowKit

set_option linter.unusedSimpArgs false in
set_option maxHeartbeats 2000000 in
theorem lawNeeds_any (k a b v : Int) (w : World) :
    Calls Try.prog 4 #[.agg #[.int .i64 k, .int .i64 a, .int .i64 b, .int .i64 v]] w fun e w' => e = .returned (.bool true) ∧ Below w.heap.size w w' := by
  have hs := fun W => specNeeds_any k a b v W
  have hi := fun W => implNeeds_any k a b v W
  unfold NeedsE at hs hi
  generalize (Ch.needsR k a b v).1 = c at *
  generalize (Ch.needsR k a b v).2 = ns at *
  go_enter Try.func4, Try.ntmps4
  go_wp2_with fail
  refine (toOp_any _ _ _ _ _).mono ?_
  rintro e w1 ⟨rfl, b1⟩
  go_wp2_with fail
  refine (hs _).mono ?_
  rintro e w2 ⟨a2, m2, c2, rfl, hm2, o2, b2⟩
  have b2' := b1.trans (b2.mono b1.size)
  have b2w : Below w.heap.size w w2 := ((Below.refl _ w).alloc (Nat.le_refl _) _).trans (b2'.mono (by simp))
  obtain ⟨cc, ff⟩ := bcell b2'
  have x0 := cc w.heap.size 0 (by simp)
  have x1 := cc w.heap.size 1 (by simp)
  have x2 := cc w.heap.size 2 (by simp)
  have x3 := cc w.heap.size 3 (by simp)
  clear cc ff b1 b2 hs b2'
  simp [go_sem] at x0 x1 x2 x3
  have lx := lt_of_cell x0
  have HL2 : Hid (m2 = ns.length) := by have := (owns_cells o2).1; rw [hcells_len] at this; show _ = _; omega
  go_wp2_with fail
  refine (toOp_any _ _ _ _ _).mono ?_
  rintro e w3 ⟨rfl, b3⟩
  have bS : Below w.heap.size w (w2.alloc (.cells #[.int .i64 c, .slice a2 m2 c2] 30)) := b2w.alloc b2w.size _
  have oS := owns_below o2 ((Below.refl _ w2).alloc (Nat.le_refl _) (.cells #[.int .i64 c, .slice a2 m2 c2] 30))
  have s0 : (w2.alloc (.cells #[.int .i64 c, .slice a2 m2 c2] 30)).cell? ⟨w2.heap.size, 0, none⟩ = some (.int .i64 c) := by go_simp
  have s1 : (w2.alloc (.cells #[.int .i64 c, .slice a2 m2 c2] 30)).cell? ⟨w2.heap.size, 1, none⟩ = some (.slice a2 m2 c2) := by go_simp
  have x0' : (w2.alloc (.cells #[.int .i64 c, .slice a2 m2 c2] 30)).cell? ⟨w.heap.size, 0, none⟩ = some (.int .i64 k) := by go_simp
  have x1' : (w2.alloc (.cells #[.int .i64 c, .slice a2 m2 c2] 30)).cell? ⟨w.heap.size, 1, none⟩ = some (.int .i64 a) := by go_simp
  have x2' : (w2.alloc (.cells #[.int .i64 c, .slice a2 m2 c2] 30)).cell? ⟨w.heap.size, 2, none⟩ = some (.int .i64 b) := by go_simp
  have x3' : (w2.alloc (.cells #[.int .i64 c, .slice a2 m2 c2] 30)).cell? ⟨w.heap.size, 3, none⟩ = some (.int .i64 v) := by go_simp
  have b3' := bS.trans (b3.mono bS.size)
  go_wp2_with fail
  refine (hi _).mono ?_
  rintro e w4 ⟨a4, m4, c4, rfl, hm4, o4, b4⟩
  have b34 := b3.trans (b4.mono b3.size)
  have b4' := b3'.trans (b4.mono b3'.size)
  replace oS := owns_below oS b34
  replace s0 := keep_cell b34 s0
  replace s1 := keep_cell b34 s1
  replace x0 := keep_cell b34 x0'
  replace x1 := keep_cell b34 x1'
  replace x2 := keep_cell b34 x2'
  replace x3 := keep_cell b34 x3'
  have HL4 : Hid (m4 = ns.length) := by have := (owns_cells o4).1; rw [hcells_len] at this; show _ = _; omega
  have hd20 : ∀ g, (Value.slice a2 m2 c2).ownBlock = some g → g < w2.heap.size := fun g hg => (owns_lt o2 g hg).2
  have h23 : w2.heap.size < w3.heap.size := by have := b3.size; simp at this; omega
  obtain rfl : m4 = m2 := HL4.out.trans HL2.out.symm
  clear b3 b4 b34 x0' x1' x2' x3' HL2 HL4 b3' bS o2 b2w
  have ls := lt_of_cell s0
  have lx := lt_of_cell x0
  have kB : Below w4.heap.size w4 (w4.alloc (.cells #[.int .i64 c, .slice a4 m4 c4] 30)) := (Below.refl _ _).alloc (Nat.le_refl _) _
  have bT : Below w.heap.size w (w4.alloc (.cells #[.int .i64 c, .slice a4 m4 c4] 30)) := b4'.alloc b4'.size _
  have E1 := eqNeedsResult_same c a4 a2 m4 c4 c2 ns (w4.alloc (.cells #[.int .i64 c, .slice a4 m4 c4] 30)) (owns_cells (owns_below o4 kB)) (owns_cells (owns_below oS kB)) (by omega)
  go_wp2_with fail
  refine E1.mono ?_
  rintro e w5 ⟨rfl, b5⟩
  have oN := owns_below (owns_below o4 kB) b5
  have oM := owns_below (owns_below oS kB) b5
  have z0 := keep_cell b5 (show (w4.alloc (.cells #[.int .i64 c, .slice a4 m4 c4] 30)).cell? ⟨w4.heap.size, 0, none⟩ = some (.int .i64 c) by go_simp)
  have z1 := keep_cell b5 (show (w4.alloc (.cells #[.int .i64 c, .slice a4 m4 c4] 30)).cell? ⟨w4.heap.size, 1, none⟩ = some (.slice a4 m4 c4) by go_simp)
  have kB5 := kB.trans (b5.mono kB.size)
  replace s0 := keep_cell kB5 s0
  replace s1 := keep_cell kB5 s1
  replace x0 := keep_cell kB5 x0
  replace x1 := keep_cell kB5 x1
  replace x2 := keep_cell kB5 x2
  replace x3 := keep_cell kB5 x3
  have b5' := bT.trans (b5.mono bT.size)
  have lz := lt_of_cell z0
  have hd4 : ∀ g, (Value.slice a4 m4 c4).ownBlock = some g → w3.heap.size ≤ g ∧ g < w4.heap.size := fun g hg => owns_lt o4 g hg
  have hd2 : ∀ g, (Value.slice a2 m4 c2).ownBlock = some g → g < w2.heap.size := hd20
  clear E1 b5 bT kB b4' kB5 o4 oS
  go_wp2_with fail
  refine (markNeedsResult_any c w3.heap.size a4 m4 c4 ns _ oN (by omega)).mono ?_
  rintro e w6 ⟨rfl, o6, g6⟩
  have hne : ∀ q, q < w3.heap.size ∨ w4.heap.size ≤ q → (Value.slice a4 m4 c4).ownBlock ≠ some q := fun q hq e => by have := hd4 q e; omega
  have oM6 := owns_grown oM g6 (fun g hg => hne g (.inl (by have := hd2 g hg; omega)))
  replace s0 := grown_cell g6 s0 (hne _ (.inl h23))
  replace s1 := grown_cell g6 s1 (hne _ (.inl h23))
  replace x0 := grown_cell g6 x0 (hne _ (.inl (by omega)))
  replace x1 := grown_cell g6 x1 (hne _ (.inl (by omega)))
  replace x2 := grown_cell g6 x2 (hne _ (.inl (by omega)))
  replace x3 := grown_cell g6 x3 (hne _ (.inl (by omega)))
  replace z0 := grown_cell g6 z0 (hne _ (.inr (Nat.le_refl _)))
  replace z1 := grown_cell g6 z1 (hne _ (.inr (Nat.le_refl _)))
  have b6 := b5'.grown g6 b5'.size (fun g hg => by have := (hd4 g hg).1; have := lt_of_cell x0; omega)
  clear oN oM g6 b5'
  have H7 := heldNeedsResult_any c a4 m4 c4 w6 (owns_cells o6) (by omega)
  go_wp2_with fail
  refine H7.mono ?_
  rintro e w7 ⟨rfl, b7⟩
  have o7 := owns_below o6 b7
  have oM7 := owns_below oM6 b7
  replace s0 := keep_cell b7 s0
  replace s1 := keep_cell b7 s1
  replace x0 := keep_cell b7 x0
  replace x1 := keep_cell b7 x1
  replace x2 := keep_cell b7 x2
  replace x3 := keep_cell b7 x3
  replace z0 := keep_cell b7 z0
  replace z1 := keep_cell b7 z1
  have b7' := b6.trans (b7.mono b6.size)
  clear H7 b7 b6 o6 oM6
  have n1 : ¬ (1 + 2 * (m4 : Int)) < 0 := by omega
  have n2 : ((1 + 2 * (m4 : Int)) != 1 + 2 * (m4 : Int)) = false := by simp
  generalize hMM : (1 + 2 * (m4 : Int)) = M at *
  have HM := hid hMM
  clear hMM
  go_wp2_with fail
  refine (toOp_any _ _ _ _ _).mono ?_
  rintro e w8 ⟨rfl, b8⟩
  go_wp2_with fail
  refine (hi _).mono ?_
  rintro e w9 ⟨a9, m9, c9, rfl, hm9, o9, b9⟩
  have b89 := b8.trans (b9.mono b8.size)
  have o9' := owns_below o7 b89
  have oM9 := owns_below oM7 b89
  replace s0 := keep_cell b89 s0
  replace s1 := keep_cell b89 s1
  replace z0 := keep_cell b89 z0
  replace z1 := keep_cell b89 z1
  have b9' := b7'.trans (b89.mono b7'.size)
  have HL9 : Hid (m9 = m4) := by
    have h1 := (owns_cells o9).1
    have h2 := (owns_cells oM9).1
    rw [hcells_len] at h1 h2
    show _ = _
    omega
  obtain rfl := HL9.out
  clear b8 b9 b89 x0 x1 x2 x3 HL9 o7 oM7 b7' hi
  have ls := lt_of_cell s0
  have lz := lt_of_cell z0
  have kB : Below w9.heap.size w9 (w9.alloc (.cells #[.int .i64 c, .slice a9 m9 c9] 30)) := (Below.refl _ _).alloc (Nat.le_refl _) _
  have E2 := eqNeedsResult_same c a9 a2 m9 c9 c2 ns (w9.alloc (.cells #[.int .i64 c, .slice a9 m9 c9] 30)) (owns_cells (owns_below o9 kB)) (owns_cells (owns_below oM9 kB)) (by omega)
  have bT : Below w.heap.size w (w9.alloc (.cells #[.int .i64 c, .slice a9 m9 c9] 30)) := b9'.alloc b9'.size _
  go_wp2_with fail
  refine E2.mono ?_
  rintro e w10 ⟨rfl, b10⟩
  have kB10 := kB.trans (b10.mono kB.size)
  replace z0 := keep_cell kB10 z0
  replace z1 := keep_cell kB10 z1
  have o10 := owns_below o9' kB10
  have b10' := bT.trans (b10.mono bT.size)
  clear E2 kB b10 bT kB10
  have H11 := heldNeedsResult_any c a4 m9 c4 w10 (owns_cells o10) (by omega)
  rw [HM.out] at H11
  clear HM
  go_wp2_with fail
  refine H11.mono ?_
  rintro e w11 ⟨rfl, b11⟩
  go_wp2
  go_ret
  exact ⟨rfl, b10'.trans (b11.mono b10'.size)⟩
end Go.Proofs.Ytnbhabifblahmaa
