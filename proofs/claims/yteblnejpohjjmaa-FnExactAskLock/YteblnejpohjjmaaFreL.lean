/- FreeLocks of the model; the law FnExactFreeLocks. -/
import Derived.Test.YteblnejpohjjmaaLkMk
namespace Go.Proofs.Yteblnejpohjjmaa
open Go.RowKit

theorem LkIn.mono {lo hi lo' hi' : Nat} {w : World} {a : Option Addr} {n : Nat} {ls : List Ch.Lock} (h : LkIn lo hi w a n ls) (h1 : lo' ≤ lo) (h2 : hi ≤ hi') : LkIn lo' hi' w a n ls := by
  refine ⟨h.1, fun h0 => ?_⟩
  obtain ⟨b, off, ha, k1, k2, hi'⟩ := h.2 h0
  refine ⟨b, off, ha, by omega, by omega, fun i hlt => ?_⟩
  obtain ⟨ah, nh, ch, aq, nq, cq, h3, h4, h5⟩ := hi' i hlt
  exact ⟨ah, nh, ch, aq, nq, cq, h3, fun g o h0 e => by have := h4 g o h0 e; omega, fun g o h0 e => by have := h5 g o h0 e; omega⟩
theorem LkIn.setAt {lo hi b i : Nat} {w : World} {a : Option Addr} {n : Nat} {ls : List Ch.Lock} (h : LkIn lo hi w a n ls) (hb : b < lo) (u : Value) : LkIn lo hi (w.setCell ⟨b, i, none⟩ u) a n ls :=
  h.within (within_grown (lo := b) (hi := b + 1) (grown_set w b i u) (Nat.le_refl _) (by omega)) (.inr (by omega))
theorem LkIn.nil (lo hi : Nat) (w : World) : LkIn lo hi w none 0 [] := ⟨rfl, fun h => absurd h (by simp)⟩

set_option linter.unusedSimpArgs false in
set_option maxRecDepth 20000 in
set_option maxHeartbeats 4000000 in
theorem specFree_any (a : Option Addr) (n cap : Nat) (t : Int) (ls : List Ch.Lock) (w : World) (h : LkAt w a n ls) (hs : Ch.lkSize ls ≤ 1048576) :
    Calls Try.prog 21 #[.slice a n cap, .int .i64 t] w fun e w' => ∃ a1 m1 c1 a2 m2 c2, e = .returned (.agg #[.int .i64 (Ch.freeR ls t).1, .bool false, .slice a1 m1 c1, .slice a2 m2 c2]) ∧ w'.ownsRow w.heap.size 2 1 (.slice a1 m1 c1) m1 (icells (Ch.freeR ls t).2.1) ∧ LkIn w.heap.size w'.heap.size w' a2 m2 (Ch.freeR ls t).2.2 ∧ Below w.heap.size w w' := by
  have IA := fun W hW => l6Asked_any a n cap t 0 ls W hW hs
  simp only [Ch.askedR_zero] at IA
  have kA : ∀ o, Below w.heap.size w (w.alloc o) := fun o => (Below.refl _ _).alloc (Nat.le_refl _) o
  have HL := h.len
  obtain ⟨c, HC⟩ : ∃ c, Hid (Ch.askedT ls t = c) := ⟨_, rfl⟩
  rw [HC.out] at IA
  by_cases h0 : c = 0
  · subst h0
    rw [Ch.freeR_ok HC.out]
    have HG := hid (Ch.askedT_good HC.out).1
    clear HC
    go_enter Try.func21, Try.ntmps21
    go_wp2_with fail
    refine (IA _ (h.below (kA _))).mono ?_
    rintro e w1 ⟨rfl, b1⟩
    have hR := heap_below b1 (heap_alloc_new w _)
    have b1 := below_box b1
    have lz := (Array.getElem?_eq_some_iff.1 hR).1
    go_wp2_with fail
    refine (l6Free_any a n cap t ls _ (h.below b1) (by have := Ch.good_few HG.out; have := HL.out; omega) (fun i hi => by have := Ch.good_at HG.out (show i < ls.length by have := HL.out; omega); exact ⟨this.1, this.2.1, this.2.2.1, this.2.2.2.1⟩)).mono ?_
    rintro e w2 ⟨a1, m1, c1, a2, m2, c2, rfl, oi, hm1, hk, b2⟩
    have hR2 := heap_below b2 hR
    obtain ⟨⟨x0, x1, x2, x3⟩, f0, f1, f2, f3⟩ := row4 hR2
    have lr := lt_of_cell x0
    have BW := b1.trans (b2.mono b1.size)
    have hwl : w.heap.size < w1.heap.size := lz
    go_wp2
    refine bodyPost_ret (v := .agg #[.int .i64 0, .bool false, .slice a1 m1 c1, .slice a2 m2 c2]) (by simp [results, Try.results21, go_sem, x0, x1, x2, x3]) rfl ⟨a1, m1, c1, a2, m2, c2, rfl, ?_, ?_, (BW.setCell (p := ⟨w.heap.size, 0, none⟩) (Nat.le_refl _) _ |>.setCell (p := ⟨w.heap.size, 1, none⟩) (Nat.le_refl _) _ |>.setCell (p := ⟨w.heap.size, 2, none⟩) (Nat.le_refl _) _ |>.setCell (p := ⟨w.heap.size, 3, none⟩) (Nat.le_refl _) _)⟩
    · refine owns_base (base := w1.heap.size) (ownsRow_setCell_below (ownsRow_setCell_below (ownsRow_setCell_below (ownsRow_setCell_below oi ?_ _) ?_ _) ?_ _) ?_ _) (by omega)
      all_goals exact hwl
    · exact ((((hk.setAt hwl _).setAt hwl _).setAt hwl _).setAt hwl _).mono (by omega) (by simp)
  · rw [Ch.freeR_bad HC.out h0]
    clear HC
    go_enter Try.func21, Try.ntmps21
    go_wp2_with fail
    refine (IA _ (h.below (kA _))).mono ?_
    rintro e w1 ⟨rfl, b1⟩
    have hR := heap_below b1 (heap_alloc_new w _)
    have BW := below_box b1
    have lz := (Array.getElem?_eq_some_iff.1 hR).1
    obtain ⟨⟨x0, x1, x2, x3⟩, f0, f1, f2, f3⟩ := row4 hR
    go_wp2
    exact bodyPost_ret (v := .agg #[.int .i64 c, .bool false, .slice none 0 0, .slice none 0 0]) (by simp [results, Try.results21, go_sem, x0, x1, x2, x3]) rfl ⟨none, 0, 0, none, 0, 0, rfl, World.ownsRow_nil _ _ _ _, LkIn.nil _ _ _, (BW.setCell (p := ⟨w.heap.size, 0, none⟩) (Nat.le_refl _) _ |>.setCell (p := ⟨w.heap.size, 1, none⟩) (Nat.le_refl _) _ |>.setCell (p := ⟨w.heap.size, 2, none⟩) (Nat.le_refl _) _ |>.setCell (p := ⟨w.heap.size, 3, none⟩) (Nat.le_refl _) _)⟩

set_option maxRecDepth 20000 in
set_option maxHeartbeats 4000000 in
theorem lawFreeLocks_any (a : Option Addr) (n cap : Nat) (t : Int) (ls : List Ch.Lock) (w : World) (h : LkAt w a n ls) (hm : n ≤ 9223372036854775807) :
    Calls Try.prog 7 #[.slice a n cap, .int .i64 t] w fun e w' => e = .returned (.bool true) ∧ Below w.heap.size w w' := by
  by_cases hbig : 1048576 < Ch.lkSize ls
  · go_enter Try.func7, Try.ntmps7
    go_wp2_with fail
    refine (szLockS_any a n cap ls _ h hm).mono ?_
    rintro e w1 ⟨rfl, b1⟩
    rw [← Ch.lkLeft_big hbig]
    go_wp2
    go_ret
    exact ⟨rfl, b1⟩
  · have hs : Ch.lkSize ls ≤ 1048576 := by omega
    have hl : Ch.lkLeft ls = 1048576 - (Ch.lkSize ls : Int) := by rw [Ch.lkLeft, if_pos hs]
    have hl0 : ¬ Ch.lkLeft ls < 0 := by omega
    clear hbig
    have SI := fun (W : World) (A : Option Addr) (hW : LkAt W A n ls) => specFree_any A n n t ls W hW hs
    have II := fun (W : World) (A : Option Addr) (hW : LkAt W A n ls) => implFree_any A n n t ls W hW hs
    generalize (Ch.freeR ls t).1 = c at SI II
    generalize (Ch.freeR ls t).2.1 = zs at SI II
    generalize (Ch.freeR ls t).2.2 = rl at SI II
    go_enter Try.func7, Try.ntmps7
    go_wp2_with fail
    refine (szLockS_any a n cap ls _ h hm).mono ?_
    rintro e w0 ⟨rfl, b0⟩
    generalize Ch.lkLeft ls = L at *
    go_wp2_with fail
    refine (toLockS_any a n cap ls _ (h.below b0) hs).mono ?_
    rintro e w1 ⟨rfl, o1, b1⟩
    have b1' := b0.trans (b1.mono b0.size)
    go_wp2_with fail
    refine (SI _ _ (o1.at hs)).mono ?_
    rintro e w2 ⟨a2, m2, c2, A2, M2, C2, rfl, o2, k2, b2⟩
    have L2 := owns_lt o2
    have b2' := b1'.trans (b2.mono b1'.size)
    have z0 := b0.size
    have z1 := b1.size
    have z2 := b2.size
    clear b0 b1 b2 o1
    go_wp2_with fail
    refine (toLockS_at (w2.heap.size + 1) a n cap ls _ (by simp) (h.below (b2'.alloc b2'.size _)) hs).mono ?_
    rintro e w3 ⟨rfl, o3, b3⟩
    have b3w := below_box b3
    have b3' := b2'.trans (b3w.mono b2'.size)
    have o2 := owns_below o2 b3w
    have k2 := k2.below b3w
    have x0 := box_cell b3 0
    have x1 := box_cell b3 1
    have x2 := box_cell b3 2
    have x3 := box_cell b3 3
    simp only [List.getElem?_toArray, List.getElem?_cons_zero, List.getElem?_cons_succ] at x0 x1 x2 x3
    have z3 := b3.size
    simp at z3
    go_wp2_with fail
    refine (II _ _ (o3.at hs)).mono ?_
    rintro e w4 ⟨a4, m4, c4, A4, M4, C4, vs, rfl, r4, b4⟩
    have L4 := owns_lt r4.1
    have b4' := b3'.trans (b4.mono b3'.size)
    have bx := b4
    have o2 := owns_below o2 b4
    have k2 := k2.below b4
    have x0 := keep_cell b4 x0
    have x1 := keep_cell b4 x1
    have x2 := keep_cell b4 x2
    have x3 := keep_cell b4 x3
    have z4 := b4.size
    have lt4 : w2.heap.size < w4.heap.size := by omega
    have hmm := r4.2.2.2.1
    have hss := r4.2.2.2.2
    have HM : m4 = m2 := by have e2 := o2.1; have e4 := r4.1.1; omega
    subst HM
    have HM2 : M4 = M2 := r4.2.1.len.symm.trans k2.1
    subst HM2
    have hrg : ∀ g, g ∈ (Value.slice A4 M4 C4).ownBlock.toList ++ vs.flatMap blks → w3.heap.size ≤ g ∧ g < w4.heap.size := by
      intro g hg
      rw [List.mem_append] at hg
      rcases hg with h1 | h1
      · exact owns_lt r4.2.1.row g (by simpa using h1)
      · obtain ⟨i, q, hq, hgq⟩ := flat_mem h1
        exact r4.2.1.bd hq hgq
    have hq : ((1 + (m4 : Int) + (Ch.pos rl M4 : Int)) != 1 + (m4 : Int) + (Ch.pos rl M4 : Int)) = false := by simp
    have hq0 : ¬ (1 + (m4 : Int) + (Ch.pos rl M4 : Int)) < 0 := by omega
    have lA4 := fun {W : World} (hW : LkRes W w3.heap.size a4 m4 c4 zs A4 M4 C4 rl vs) => (hW.2.1.lkIn (by omega)).at
    clear b3 b3w b2'
    have kB : Below w4.heap.size w4 (w4.alloc (.cells #[.int .i64 c, .bool false, .slice a4 m4 c4, .slice A4 M4 C4] 29)) := (Below.refl _ _).alloc (Nat.le_refl _) _
    have r4b := r4.below kB
    have o2b := owns_below o2 kB
    have k2b := k2.below kB
    go_wp2_with fail
    refine (eqLockResult_same c _ a4 a2 m4 c4 c2 zs A4 A2 M4 C4 C2 rl _ (owns_cells r4b.1) (owns_cells o2b) (lA4 r4b) k2b.at (by omega) hss).mono ?_
    rintro e w5 ⟨rfl, b5⟩
    have y0 := box_cell b5 0
    have y1 := box_cell b5 1
    have y2 := box_cell b5 2
    have y3 := box_cell b5 3
    simp only [List.getElem?_toArray, List.getElem?_cons_zero, List.getElem?_cons_succ] at y0 y1 y2 y3
    have b5 := below_box b5
    have b5' := b4'.trans (b5.mono b4'.size)
    have bx := bx.trans (b5.mono bx.size)
    have z5 := b5.size
    have o2 := owns_below o2 b5
    have k2 := k2.below b5
    have r5 := r4.below b5
    have x0 := keep_cell b5 x0
    have x1 := keep_cell b5 x1
    have x2 := keep_cell b5 x2
    have x3 := keep_cell b5 x3
    clear r4b o2b k2b kB
    go_wp2_with fail
    refine (toLockS_any a n cap ls _ (h.below b5') hs).mono ?_
    rintro e w6 ⟨rfl, o6, b6⟩
    have b6' := b5'.trans (b6.mono b5'.size)
    have bx := bx.trans (b6.mono bx.size)
    have z6 := b6.size
    have o2 := owns_below o2 b6
    have k2 := k2.below b6
    have r5 := r5.below b6
    have x0 := keep_cell b6 x0
    have x1 := keep_cell b6 x1
    have x2 := keep_cell b6 x2
    have x3 := keep_cell b6 x3
    have y0 := keep_cell b6 y0
    have y1 := keep_cell b6 y1
    have y2 := keep_cell b6 y2
    have y3 := keep_cell b6 y3
    go_wp2_with fail
    refine (eqLockS_same _ _ n n n ls _ ((o3.below bx).at hs) (o6.at hs) hs).mono ?_
    rintro e w7 ⟨rfl, b7⟩
    have b7' := b6'.trans (b7.mono b6'.size)
    have bx := bx.trans (b7.mono bx.size)
    have z7 := b7.size
    have o2 := owns_below o2 b7
    have k2 := k2.below b7
    have r5 := r5.below b7
    have x0 := keep_cell b7 x0
    have x1 := keep_cell b7 x1
    have x2 := keep_cell b7 x2
    have x3 := keep_cell b7 x3
    have y0 := keep_cell b7 y0
    have y1 := keep_cell b7 y1
    have y2 := keep_cell b7 y2
    have y3 := keep_cell b7 y3
    clear o6 b6' b6 b5 b5' b4 b4' b3'
    go_wp2_with fail
    refine (markLocks_any 1 _ _ _ n n ls w3 _ o3 bx (by decide) (by decide) (by omega)).mono ?_
    rintro e w8 ⟨rfl, _, wi8⟩
    have hk0 : ¬ (1 + (Ch.pos ls n : Int)) < 0 := by omega
    generalize (1 + (Ch.pos ls n : Int)) = kk at *
    have b8' := b7'.trans (wi8.toBelow (B := w.heap.size) (by omega) b7'.size)
    have o2 := wi8.owns o2 (fun g hg => by have := L2 g hg; omega)
    have k2 := k2.within wi8 (.inl (by omega))
    have r8 : LkRes w8 w3.heap.size a4 m4 c4 zs A4 M4 C4 rl vs := ⟨wi8.owns r5.1 (fun g hg => by have := L4 g hg; omega), ⟨r5.2.1.len, r5.2.1.vlen, wi8.owns r5.2.1.row (fun g hg => by have := hrg g (List.mem_append.2 (.inl (by simp [hg]))); omega), fun i p hp => wi8.owns (r5.2.1.hs i p hp) (fun g hg => by have := hrg g (List.mem_append.2 (.inr (List.mem_flatMap.2 ⟨p, List.mem_of_getElem? hp, by simp [blks, hg]⟩))); omega), fun i p hp => wi8.owns (r5.2.1.qs i p hp) (fun g hg => by have := hrg g (List.mem_append.2 (.inr (List.mem_flatMap.2 ⟨p, List.mem_of_getElem? hp, by simp [blks, hg]⟩))); omega), r5.2.1.apart⟩, r5.2.2⟩
    have x0 := within_cell wi8 x0 (by omega)
    have x1 := within_cell wi8 x1 (by omega)
    have x2 := within_cell wi8 x2 (by omega)
    have x3 := within_cell wi8 x3 (by omega)
    have y0 := within_cell wi8 y0 (by omega)
    have y1 := within_cell wi8 y1 (by omega)
    have y2 := within_cell wi8 y2 (by omega)
    have y3 := within_cell wi8 y3 (by omega)
    have z8 := wi8.size
    clear b7' b7 o3 wi8 bx r5
    go_wp2_with fail
    refine (eqLockResult_same c _ a4 a2 m4 c4 c2 zs A4 A2 M4 C4 C2 rl _ (owns_cells r8.1) (owns_cells o2) (lA4 r8) k2.at (by omega) hss).mono ?_
    rintro e w9 ⟨rfl, b9⟩
    have b9' := b8'.trans (b9.mono b8'.size)
    have z9 := b9.size
    have o2 := owns_below o2 b9
    have k2 := k2.below b9
    have r9 := r8.below b9
    have x0 := keep_cell b9 x0
    have x1 := keep_cell b9 x1
    have x2 := keep_cell b9 x2
    have x3 := keep_cell b9 x3
    have y0 := keep_cell b9 y0
    have y1 := keep_cell b9 y1
    have y2 := keep_cell b9 y2
    have y3 := keep_cell b9 y3
    clear b8' b9 r8
    go_wp2_with fail
    refine (markLockResult_any c _ w3.heap.size a4 m4 c4 zs A4 M4 C4 rl vs w4.heap.size _ r9 (fun g hg => (L4 g hg).2) (fun g hg => (hrg g hg).2)).mono ?_
    rintro e w10 ⟨rfl, mk10, wi10⟩
    have b10' := b9'.trans (wi10.toBelow (B := w.heap.size) (by omega) b9'.size)
    have o2 := wi10.owns o2 (fun g hg => by have := L2 g hg; omega)
    have k2 := k2.within wi10 (.inl (by omega))
    have x0 := within_cell wi10 x0 (by omega)
    have x1 := within_cell wi10 x1 (by omega)
    have x2 := within_cell wi10 x2 (by omega)
    have x3 := within_cell wi10 x3 (by omega)
    have y0 := within_cell wi10 y0 (by omega)
    have y1 := within_cell wi10 y1 (by omega)
    have y2 := within_cell wi10 y2 (by omega)
    have y3 := within_cell wi10 y3 (by omega)
    have z10 := wi10.size
    clear b9' wi10 r9
    go_wp2_with fail
    refine (heldLockResult_any c _ w3.heap.size a4 m4 c4 A4 M4 C4 rl vs _ mk10 hmm hss).mono ?_
    rintro e w11 ⟨rfl, b11⟩
    have b11' := b10'.trans (b11.mono b10'.size)
    have o2 := owns_below o2 b11
    have k2 := k2.below b11
    have mk11 := mk10.below b11
    have x0 := keep_cell b11 x0
    have x1 := keep_cell b11 x1
    have x2 := keep_cell b11 x2
    have x3 := keep_cell b11 x3
    have y0 := keep_cell b11 y0
    have y1 := keep_cell b11 y1
    have y2 := keep_cell b11 y2
    have y3 := keep_cell b11 y3
    clear b10' b11 mk10
    go_wp2_with fail
    refine (toLockS_any a n cap ls _ (h.below b11') hs).mono ?_
    rintro e w12 ⟨rfl, o12, b12⟩
    have b12' := b11'.trans (b12.mono b11'.size)
    have o2 := owns_below o2 b12
    have k2 := k2.below b12
    have mk12 := mk11.below b12
    have x0 := keep_cell b12 x0
    have x1 := keep_cell b12 x1
    have x2 := keep_cell b12 x2
    have x3 := keep_cell b12 x3
    have y0 := keep_cell b12 y0
    have y1 := keep_cell b12 y1
    have y2 := keep_cell b12 y2
    have y3 := keep_cell b12 y3
    clear b11' b12 mk11
    go_wp2_with fail
    refine (II _ _ (o12.at hs)).mono ?_
    rintro e w13 ⟨a13, m13, c13, A13, M13, C13, vs13, rfl, r13, b13⟩
    have b13' := b12'.trans (b13.mono b12'.size)
    have o2 := owns_below o2 b13
    have k2 := k2.below b13
    have mk13 := mk12.below b13
    have x0 := keep_cell b13 x0
    have x1 := keep_cell b13 x1
    have x2 := keep_cell b13 x2
    have x3 := keep_cell b13 x3
    have y0 := keep_cell b13 y0
    have y1 := keep_cell b13 y1
    have y2 := keep_cell b13 y2
    have y3 := keep_cell b13 y3
    have HM : m13 = m4 := by have e2 := o2.1; have e4 := r13.1.1; omega
    subst HM
    have HM2 : M13 = M4 := r13.2.1.len.symm.trans k2.1
    subst HM2
    have l1 := lt_of_cell x0
    have l2 := lt_of_cell y0
    clear b12' b13 o12 mk12
    have kB : Below w13.heap.size w13 (w13.alloc (.cells #[.int .i64 c, .bool false, .slice a13 m13 c13, .slice A13 M13 C13] 29)) := (Below.refl _ _).alloc (Nat.le_refl _) _
    have r13b := r13.below kB
    have o2b := owns_below o2 kB
    have k2b := k2.below kB
    have lA13 := (r13b.2.1.lkIn (by omega)).at
    go_wp2_with fail
    refine (eqLockResult_same c _ a13 a2 m13 c13 c2 zs A13 A2 M13 C13 C2 rl _ (owns_cells r13b.1) (owns_cells o2b) lA13 k2b.at hmm hss).mono ?_
    rintro e w14 ⟨rfl, b14⟩
    have b14 := below_box b14
    have b14' := b13'.trans (b14.mono b13'.size)
    have mk14 := mk13.below b14
    have y0 := keep_cell b14 y0
    have y1 := keep_cell b14 y1
    have y2 := keep_cell b14 y2
    have y3 := keep_cell b14 y3
    clear b13' b14
    go_wp2_with fail
    refine (heldLockResult_any c _ w3.heap.size a4 m13 c4 A4 M13 C4 rl vs _ mk14 hmm hss).mono ?_
    rintro e w15 ⟨rfl, b15⟩
    go_wp2
    go_ret
    exact ⟨rfl, b14'.trans (b15.mono b14'.size)⟩

end Go.Proofs.Yteblnejpohjjmaa
