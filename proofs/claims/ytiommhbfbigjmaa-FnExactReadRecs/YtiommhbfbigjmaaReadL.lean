/- Marks of a result of records; the walk of the law FnExactReadRecs out of the contracts. -/
import Derived.Test.YtiommhbfbigjmaaRecT
namespace Go.Proofs.Ytiommhbfbigjmaa
open Go.RowKit

set_option maxHeartbeats 400000 in
theorem markRecsResult_any (c u : Int) (B : Nat) (a : Option Addr) (n cap : Nat) (rs : List Ch.Rec) (w : World) (hown : w.ownsRow B 26 7 (.slice a n cap) n (rc7 rs)) (hn : n ≤ 1048579) :
    Calls Try.prog 35 #[.agg #[.int .i64 c, .int .i64 u, .slice a n cap], .int .i64 1] w fun e w' => e = .returned (.int .i64 (1 + 7 * n)) ∧ w'.ownsRow B 26 7 (.slice a n cap) n (rc7 (marks7 n)) ∧ w.grownBy w' (Value.slice a n cap).ownBlock := by
  rcases hown.2 with ⟨hv, h0⟩ | ⟨g, cp, cur, hv, _⟩
  · simp only [Value.slice.injEq] at hv
    obtain ⟨rfl, rfl, rfl⟩ := hv
    go_enter Try.func35, Try.ntmps35
    go_wp2_with fail
    refine (markRecS_nil _).mono ?_
    rintro e w1 ⟨rfl, rfl⟩
    go_wp2
    go_ret
    exact ⟨rfl, World.ownsRow_nil _ _ _ _, gr_alloc ⟨rfl, rfl, rfl, Nat.le_refl _, fun _ _ _ => rfl⟩⟩
  · simp only [Value.slice.injEq, true_and] at hv
    obtain ⟨rfl, rfl⟩ := hv
    go_enter Try.func35, Try.ntmps35
    go_wp2_with fail
    refine (markRecS_any B g n cap rs _ (hown.alloc _) hn).mono ?_
    rintro e w1 ⟨rfl, own1, gr1⟩
    go_wp2
    go_ret
    exact ⟨rfl, own1, gr_alloc gr1⟩

set_option maxHeartbeats 400000 in
theorem heldRecsResult_any (c u : Int) (a : Option Addr) (n cap : Nat) (w : World) (h : CellsAt w a (n * 7) (rc7 (marks7 n))) (hn : n ≤ 1048579) :
    Calls Try.prog 36 #[.agg #[.int .i64 c, .int .i64 u, .slice a n cap], .int .i64 1] w fun e w' => e = .returned (.int .i64 (1 + 7 * n)) ∧ Below w.heap.size w w' := by
  go_enter Try.func36, Try.ntmps36
  go_wp2_with fail
  refine (heldRecS_any a n cap _ (h.below ((Below.refl _ _).alloc (Nat.le_refl _) _)) hn).mono ?_
  rintro e w1 ⟨rfl, rfl⟩
  go_wp2
  go_ret
  exact ⟨rfl, (Below.refl _ _).alloc (Nat.le_refl _) _⟩

set_option maxHeartbeats 1000000 in
theorem lawRead_any (a : Option Addr) (n cap : Nat) (zs : List Int) (w : World) (h : CellsAt w a n (bts zs)) (hb : IsB zs) :
    Calls Try.prog 7 #[.slice a n cap] w fun e w' => e = .returned (.bool true) ∧ Below w.heap.size w w' := by
  by_cases hbig : 1048576 < n
  · go_enter Try.func7, Try.ntmps7
    go_wp2
    go_ret
    exact ⟨rfl, Below.refl _ _⟩
  · have hsm : n ≤ 1048576 := by omega
    clear hbig
    go_enter Try.func7, Try.ntmps7
    go_wp2_with fail
    refine (toByteS_any a n cap zs _ h (by omega)).mono ?_
    rintro e w1 ⟨rfl, o1, b1⟩
    go_wp2_with fail
    refine (specRead_any _ n n zs _ (owns_bytes o1) hb hsm (Nat.le_refl _)).mono ?_
    rintro e w2 ⟨a2, m2, c2, rfl, hm2, o2, b2⟩
    have L2 := owns_lt o2
    have b2' := b1.trans (b2.mono b1.size)
    have z1 := b1.size
    have z2 := b2.size
    go_wp2_with fail
    refine (toByteS_at (w2.heap.size + 1) a n cap zs _ (by simp) (h.below (b2'.alloc b2'.size _)) (by omega)).mono ?_
    rintro e w3 ⟨rfl, o3, b3⟩
    have hX := (owns_bounds o3).2
    have b3w := below_box b3
    have b3' := b2'.trans (b3w.mono b2'.size)
    have o2 := owns_below o2 b3w
    have x0 := box_cell b3 0
    have x1 := box_cell b3 1
    have x2 := box_cell b3 2
    simp at x0 x1 x2
    have z3 := b3.size
    simp at z3
    go_wp2_with fail
    refine (implRead_any _ n n zs _ (owns_bytes o3) hb hsm (Nat.le_refl _)).mono ?_
    rintro e w4 ⟨a4, m4, c4, rfl, hm4, o4, b4⟩
    have L4 := owns_lt o4
    have b4' := b3'.trans (b4.mono b3'.size)
    have o2 := owns_below o2 b4
    have o3 := owns_below o3 b4
    have x0 := keep_cell b4 x0
    have x1 := keep_cell b4 x1
    have x2 := keep_cell b4 x2
    have z4 := b4.size
    have lt4 : w2.heap.size < w4.heap.size := by omega
    have HM : m4 = m2 := by have e2 := o2.1; have e4 := o4.1; omega
    subst HM
    have hq : ((1 + 7 * (m4 : Int)) != 1 + 7 * m4) = false := by simp
    clear b1 b2 b3 b3w b2' o1
    go_wp2_with fail
    refine (eqRecsResult_same _ _ a4 a2 m4 c4 c2 (Ch.rd zs).2.2 _ (owns_cells (o4.alloc _)) (owns_cells (o2.alloc _)) (by omega)).mono ?_
    rintro e w5 ⟨rfl, b5⟩
    have y0 := box_cell b5 0
    have y1 := box_cell b5 1
    have y2 := box_cell b5 2
    simp at y0 y1 y2
    have b5 := below_box b5
    have b5' := b4'.trans (b5.mono b4'.size)
    have o2 := owns_below o2 b5
    have o3 := owns_below o3 b5
    have o4 := owns_below o4 b5
    have x0 := keep_cell b5 x0
    have x1 := keep_cell b5 x1
    have x2 := keep_cell b5 x2
    go_wp2_with fail
    refine (toByteS_any a n cap zs _ (h.below b5') (by omega)).mono ?_
    rintro e w6 ⟨rfl, o6, b6⟩
    have b6' := b5'.trans (b6.mono b5'.size)
    have o2 := owns_below o2 b6
    have o3 := owns_below o3 b6
    have o4 := owns_below o4 b6
    have x0 := keep_cell b6 x0
    have x1 := keep_cell b6 x1
    have x2 := keep_cell b6 x2
    have y0 := keep_cell b6 y0
    have y1 := keep_cell b6 y1
    have y2 := keep_cell b6 y2
    go_wp2_with fail
    refine (eqByteS_same _ _ n n n zs _ (owns_bytes o3) (owns_bytes o6) (by omega)).mono ?_
    rintro e w7 ⟨rfl, b7⟩
    have b7' := b6'.trans (b7.mono b6'.size)
    have o2 := owns_below o2 b7
    have o3 := owns_below o3 b7
    have o4 := owns_below o4 b7
    have x0 := keep_cell b7 x0
    have x1 := keep_cell b7 x1
    have x2 := keep_cell b7 x2
    have y0 := keep_cell b7 y0
    have y1 := keep_cell b7 y1
    have y2 := keep_cell b7 y2
    clear o6 b6' b6 b5 b5'
    go_wp2_with fail
    refine (markByteS_any _ _ n n zs _ o3 (by omega)).mono ?_
    rintro e w8 ⟨rfl, _, gr8⟩
    have b8' := b7'.grown gr8 b7'.size (by intro k hk; simp at hk; omega)
    have o2 := owns_grown o2 gr8 (fun g hg => by have := L2 g hg; simp; omega)
    have o4 := owns_grown o4 gr8 (fun g hg => by have := L4 g hg; simp; omega)
    have x0 := grown_cell gr8 x0 (by simp)
    have x1 := grown_cell gr8 x1 (by simp)
    have x2 := grown_cell gr8 x2 (by simp)
    have y0 := grown_cell gr8 y0 (by simp; omega)
    have y1 := grown_cell gr8 y1 (by simp; omega)
    have y2 := grown_cell gr8 y2 (by simp; omega)
    clear b7' b7 o3 gr8
    go_wp2_with fail
    refine (eqRecsResult_same _ _ a4 a2 m4 c4 c2 (Ch.rd zs).2.2 _ (owns_cells o4) (owns_cells o2) (by omega)).mono ?_
    rintro e w9 ⟨rfl, b9⟩
    have b9' := b8'.trans (b9.mono b8'.size)
    have o2 := owns_below o2 b9
    have o4 := owns_below o4 b9
    have x0 := keep_cell b9 x0
    have x1 := keep_cell b9 x1
    have x2 := keep_cell b9 x2
    have y0 := keep_cell b9 y0
    have y1 := keep_cell b9 y1
    have y2 := keep_cell b9 y2
    clear b8' b9
    go_wp2_with fail
    refine (markRecsResult_any _ _ _ a4 m4 c4 (Ch.rd zs).2.2 _ o4 (by omega)).mono ?_
    rintro e w10 ⟨rfl, o5, gr10⟩
    have b10' := b9'.grown gr10 b9'.size (by intro k hk; have := L4 k hk; omega)
    have o2 := owns_grown o2 gr10 (fun g hg hk => by have := L2 g hg; have := L4 g hk; omega)
    have x0 := grown_cell gr10 x0 (fun hk => by have := L4 _ hk; omega)
    have x1 := grown_cell gr10 x1 (fun hk => by have := L4 _ hk; omega)
    have x2 := grown_cell gr10 x2 (fun hk => by have := L4 _ hk; omega)
    have y0 := grown_cell gr10 y0 (fun hk => by have := L4 _ hk; omega)
    have y1 := grown_cell gr10 y1 (fun hk => by have := L4 _ hk; omega)
    have y2 := grown_cell gr10 y2 (fun hk => by have := L4 _ hk; omega)
    clear b9' gr10 o4
    go_wp2_with fail
    refine (heldRecsResult_any _ _ a4 m4 c4 _ (owns_cells o5) (by omega)).mono ?_
    rintro e w11 ⟨rfl, b11⟩
    have b11' := b10'.trans (b11.mono b10'.size)
    have o2 := owns_below o2 b11
    have o5 := owns_below o5 b11
    have x0 := keep_cell b11 x0
    have x1 := keep_cell b11 x1
    have x2 := keep_cell b11 x2
    have y0 := keep_cell b11 y0
    have y1 := keep_cell b11 y1
    have y2 := keep_cell b11 y2
    clear b10' b11
    go_wp2_with fail
    refine (toByteS_any a n cap zs _ (h.below b11') (by omega)).mono ?_
    rintro e w12 ⟨rfl, o12, b12⟩
    have b12' := b11'.trans (b12.mono b11'.size)
    have o2 := owns_below o2 b12
    have o5 := owns_below o5 b12
    have x0 := keep_cell b12 x0
    have x1 := keep_cell b12 x1
    have x2 := keep_cell b12 x2
    have y0 := keep_cell b12 y0
    have y1 := keep_cell b12 y1
    have y2 := keep_cell b12 y2
    clear b11' b12
    go_wp2_with fail
    refine (implRead_any _ n n zs _ (owns_bytes o12) hb hsm (Nat.le_refl _)).mono ?_
    rintro e w13 ⟨a13, m13, c13, rfl, hm13, o13, b13⟩
    have b13' := b12'.trans (b13.mono b12'.size)
    have o2 := owns_below o2 b13
    have o5 := owns_below o5 b13
    have x0 := keep_cell b13 x0
    have x1 := keep_cell b13 x1
    have x2 := keep_cell b13 x2
    have y0 := keep_cell b13 y0
    have y1 := keep_cell b13 y1
    have y2 := keep_cell b13 y2
    have HM : m13 = m4 := by have e2 := o2.1; have e4 := o13.1; omega
    subst HM
    have l1 := lt_of_cell x0
    have l2 := lt_of_cell y0
    clear b12' b13 o12
    go_wp2_with fail
    refine (eqRecsResult_same _ _ a13 a2 m13 c13 c2 (Ch.rd zs).2.2 _ (owns_cells (o13.alloc _)) (owns_cells (o2.alloc _)) (by omega)).mono ?_
    rintro e w14 ⟨rfl, b14⟩
    have b14 := below_box b14
    have b14' := b13'.trans (b14.mono b13'.size)
    have o5 := owns_below o5 b14
    have y0 := keep_cell b14 y0
    have y1 := keep_cell b14 y1
    have y2 := keep_cell b14 y2
    clear b13' b14
    go_wp2_with fail
    refine (heldRecsResult_any _ _ a4 m13 c4 _ (owns_cells o5) (by omega)).mono ?_
    rintro e w15 ⟨rfl, b15⟩
    go_wp2
    go_ret
    exact ⟨rfl, b14'.trans (b15.mono b14'.size)⟩
end Go.Proofs.Ytiommhbfbigjmaa
