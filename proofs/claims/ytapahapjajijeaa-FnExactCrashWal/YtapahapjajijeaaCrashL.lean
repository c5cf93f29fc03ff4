
/- The law FnExactCrashWal. -/
import Derived.Test.YtapahapjajijeaaMarkF
import Derived.Test.YtapahapjajijeaaCrashW
namespace Go.Proofs.Ytapahapjajijeaa
open Go.RowKit

/-- What CrashWal answers: the code, the count, the sure bytes. -/
def Ch.crashR (ss ls : List Int) (kept : Int) : Int × Nat × List Int :=
  if Ch.walFault ss ls = 0 then (if kept < 0 ∨ (ls.length : Int) < kept then (3, 0, []) else
    (0, (Ch.reads ((ss ++ ls.take kept.toNat).take (Ch.used (ss ++ ls.take kept.toNat)))).length, (ss ++ ls.take kept.toNat).take (Ch.used (ss ++ ls.take kept.toNat)))) else (Ch.walFault ss ls, 0, [])

theorem sum_of_fault {ss ls : List Int} (h0 : Ch.walFault ss ls = 0) : ss.length + ls.length ≤ 4000 := by
  unfold Ch.walFault at h0
  by_cases hbig : 4000 < ss.length + ls.length
  · rw [if_pos hbig] at h0; omega
  · omega

theorem implCrash_any (ad ad' : Addr) (n m cap cap' : Nat) (kept : Int) (ss ls : List Int) (w : World) (h : CellsAt w (some ad) n (bts ss)) (h' : CellsAt w (some ad') m (bts ls)) (hb : IsB ss) (hb' : IsB ls) (hn : n ≤ 1048576) (hm : m ≤ 1048576) (hcap : n ≤ cap) (hcap' : m ≤ cap') :
    Calls Try.prog 23 #[.agg #[.slice (some ad) n cap, .slice (some ad') m cap'], .int .i64 kept] w fun e w' => ∃ a1 k c1, e = .returned (.agg #[.int .i64 (Ch.crashR ss ls kept).1, .int .i64 (Ch.crashR ss ls kept).2.1, .slice a1 k c1, .slice none 0 0]) ∧ k ≤ 4000 ∧ w'.ownsRow w.heap.size 5 1 (.slice a1 k c1) k (bts (Ch.crashR ss ls kept).2.2) ∧ Below w.heap.size w w' := by
  have e1 := h.len.out
  have e2 := h'.len.out
  by_cases h0 : Ch.walFault ss ls = 0
  · have := sum_of_fault h0
    by_cases hk : kept < 0 ∨ (m : Int) < kept
    · have e : (Ch.crashR ss ls kept) = (3, 0, []) := by unfold Ch.crashR; rw [if_pos h0, if_pos (by omega)]
      rw [e]
      refine (implCrash_range ad ad' n m cap cap' kept ss ls w h h' hb hb' hn hm hcap hcap' h0 hk).mono ?_
      rintro e w' ⟨rfl, b⟩
      exact ⟨none, 0, 0, rfl, by omega, World.ownsRow_nil _ _ _ _, b⟩
    · have e : (Ch.crashR ss ls kept) = (0, (Ch.reads ((ss ++ ls.take kept.toNat).take (Ch.used (ss ++ ls.take kept.toNat)))).length, (ss ++ ls.take kept.toNat).take (Ch.used (ss ++ ls.take kept.toNat))) := by unfold Ch.crashR; rw [if_pos h0, if_neg (by omega)]
      rw [e]
      obtain ⟨k, rfl⟩ : ∃ k : Nat, kept = (k : Int) := ⟨kept.toNat, by omega⟩
      have hul := Ch.used_le (ss ++ ls.take (k : Int).toNat)
      have hll : (ss ++ ls.take (k : Int).toNat).length ≤ 4000 := by simp; omega
      refine (implCrash_ok ad ad' n m cap cap' k ss ls w h h' hb hb' hn hm hcap hcap' h0 (by omega) (ss ++ ls.take (k : Int).toNat) (by simp)).mono ?_
      rintro e w' ⟨a1, c1, rfl, o, b⟩
      exact ⟨a1, _, c1, rfl, by omega, o, b⟩
  · have e : (Ch.crashR ss ls kept) = (Ch.walFault ss ls, 0, []) := by unfold Ch.crashR; rw [if_neg h0]
    rw [e]
    refine (implCrash_no ad ad' n m cap cap' kept ss ls w h h' hb hb' hn hm hcap hcap' _ rfl (by simpa using h0)).mono ?_
    rintro e w' ⟨rfl, b⟩
    exact ⟨none, 0, 0, rfl, by omega, World.ownsRow_nil _ _ _ _, b⟩

theorem specCrash_any (ad ad' : Addr) (n m cap cap' : Nat) (kept : Int) (ss ls : List Int) (w : World) (h : CellsAt w (some ad) n (bts ss)) (h' : CellsAt w (some ad') m (bts ls)) (hb : IsB ss) (hb' : IsB ls) (hn : n ≤ 1048576) (hm : m ≤ 1048576) (hcap : n ≤ cap) (hcap' : m ≤ cap') :
    Calls Try.prog 24 #[.agg #[.slice (some ad) n cap, .slice (some ad') m cap'], .int .i64 kept] w fun e w' => ∃ a1 k c1 a2 c2, e = .returned (.agg #[.int .i64 (Ch.crashR ss ls kept).1, .int .i64 (Ch.crashR ss ls kept).2.1, .slice a1 k c1, .slice a2 0 c2]) ∧ k ≤ 4000 ∧ w'.ownsRow w.heap.size 5 1 (.slice a1 k c1) k (bts (Ch.crashR ss ls kept).2.2) ∧ Below w.heap.size w w' := by
  have e1 := h.len.out
  have e2 := h'.len.out
  by_cases h0 : Ch.walFault ss ls = 0
  · have := sum_of_fault h0
    by_cases hk : kept < 0 ∨ (m : Int) < kept
    · have e : (Ch.crashR ss ls kept) = (3, 0, []) := by unfold Ch.crashR; rw [if_pos h0, if_pos (by omega)]
      rw [e]
      refine (specCrash_range ad ad' n m cap cap' kept ss ls w h h' hb hb' hn hm hcap hcap' h0 hk).mono ?_
      rintro e w' ⟨rfl, b⟩
      exact ⟨none, 0, 0, none, 0, rfl, by omega, World.ownsRow_nil _ _ _ _, b⟩
    · have e : (Ch.crashR ss ls kept) = (0, (Ch.reads ((ss ++ ls.take kept.toNat).take (Ch.used (ss ++ ls.take kept.toNat)))).length, (ss ++ ls.take kept.toNat).take (Ch.used (ss ++ ls.take kept.toNat))) := by unfold Ch.crashR; rw [if_pos h0, if_neg (by omega)]
      rw [e]
      obtain ⟨k, rfl⟩ : ∃ k : Nat, kept = (k : Int) := ⟨kept.toNat, by omega⟩
      have hul := Ch.used_le (ss ++ ls.take (k : Int).toNat)
      have hll : (ss ++ ls.take (k : Int).toNat).length ≤ 4000 := by simp; omega
      refine (specCrash_ok ad ad' n m cap cap' k ss ls w h h' hb hb' hn hm hcap hcap' h0 (by omega) (ss ++ ls.take (k : Int).toNat) (by simp)).mono ?_
      rintro e w' ⟨a1, c1, a2, c2, rfl, o, b⟩
      exact ⟨a1, _, c1, a2, c2, rfl, by omega, o, b⟩
  · have e : (Ch.crashR ss ls kept) = (Ch.walFault ss ls, 0, []) := by unfold Ch.crashR; rw [if_neg h0]
    rw [e]
    refine (specCrash_no ad ad' n m cap cap' kept ss ls w h h' hb hb' hn hm hcap hcap' _ rfl (by simpa using h0)).mono ?_
    rintro e w' ⟨rfl, b⟩
    exact ⟨none, 0, 0, none, 0, rfl, by omega, World.ownsRow_nil _ _ _ _, b⟩

theorem nil_cells (W : World) (a : Option Addr) : CellsAt W a 0 (bts []) := ⟨rfl, fun h => absurd h (by simp)⟩
theorem box4 {w w1 : World} {t : TypeId} {c0 c1 c2 c3 : Value} (b : Below (w.alloc (.cells #[c0, c1, c2, c3] t)).heap.size (w.alloc (.cells #[c0, c1, c2, c3] t)) w1) :
    w1.cell? ⟨w.heap.size, 0, none⟩ = some c0 ∧ w1.cell? ⟨w.heap.size, 1, none⟩ = some c1 ∧ w1.cell? ⟨w.heap.size, 2, none⟩ = some c2 ∧ w1.cell? ⟨w.heap.size, 3, none⟩ = some c3 := ⟨box_cell b 0, box_cell b 1, box_cell b 2, box_cell b 3⟩

set_option linter.unusedSimpArgs false in
set_option maxHeartbeats 4000000 in
theorem lawCrash_any (a a' : Option Addr) (n m cap cap' : Nat) (kept : Int) (ss ls : List Int) (w : World) (h : CellsAt w a n (bts ss)) (h' : CellsAt w a' m (bts ls)) (hb : IsB ss) (hb' : IsB ls) (hn : n ≤ 9223372036854775807) (hm : m ≤ 9223372036854775807) :
    Calls Try.prog 7 #[.agg #[.slice a n cap, .slice a' m cap'], .int .i64 kept] w fun e w' => e = .returned (.bool true) ∧ Below w.heap.size w w' := by
  by_cases hs : Small n m
  · have hn' : n ≤ 1048576 := by unfold Small at hs; omega
    have hm' : m ≤ 1048576 := by unfold Small at hs; omega
    have n2 : ¬ (1048576 : Int) - (n : Int) - (m : Int) < 0 := by unfold Small at hs; omega
    go_enter Try.func7, Try.ntmps7
    go_wp2_with fail
    refine (szWal_ok a a' n m cap cap' _ hs).mono ?_
    clear hs
    rintro e w0 ⟨rfl, bz⟩
    obtain ⟨u0, u1⟩ := box2 bz
    have zA := lt_of_cell u0
    go_wp2_with fail
    refine (toWal_any a a' n m cap cap' ss ls _ (h.below (below_box bz)) (h'.below (below_box bz)) hn' hm').mono ?_
    rintro e w1 ⟨g1, g2, rfl, o1, o2, hg, b1⟩
    have b1A := bz.trans (b1.mono bz.size)
    go_wp2_with fail
    refine (specCrash_any ⟨g1, 0, none⟩ ⟨g2, 0, none⟩ n m n m kept ss ls _ (owns_bytes o1) (owns_bytes o2) hb hb' hn' hm' (Nat.le_refl _) (Nat.le_refl _)).mono ?_
    rintro e w2 ⟨a2, k2, c2, e2, f2, rfl, hk2, s2, b2⟩
    have b2A := b1A.trans (b2.mono b1A.size)
    have L2 := owns_lt s2
    obtain ⟨u0, u1⟩ := box2 b2A
    have zu2 := lt_of_cell u0
    clear o1 o2 b1 b1A bz b2
    generalize hfr : Ch.crashR ss ls kept = fr at *
    obtain ⟨fc, fn, fs⟩ := fr
    simp only at s2 hfr
    go_wp2_with fail
    refine (toWal_any a a' n m cap cap' ss ls _ (h.below (below_box (b2A.alloc b2A.size _))) (h'.below (below_box (b2A.alloc b2A.size _))) hn' hm').mono ?_
    rintro e w3 ⟨g3, g4, rfl, p3, p4, hg34, b3⟩
    obtain ⟨s0, s1, s2', s3⟩ := box4 b3
    have b3w := below_box b3
    have u0 := keep_cell b3w u0
    have u1 := keep_cell b3w u1
    have s2 := owns_below s2 b3w
    have b3A := b2A.trans (b3w.mono b2A.size)
    have l3 := owns_bounds p3
    have l4 := owns_bounds p4
    have zs3 := lt_of_cell s0
    have z3 := b3.size
    simp at z3 l3 l4
    clear b3 b3w b2A
    go_wp2_with fail
    refine (implCrash_any ⟨g3, 0, none⟩ ⟨g4, 0, none⟩ n m n m kept ss ls _ (owns_bytes (p3.alloc _)) (owns_bytes (p4.alloc _)) hb hb' hn' hm' (Nat.le_refl _) (Nat.le_refl _)).mono ?_
    rw [hfr]
    rintro e w4 ⟨a4, k4, c4, rfl, hk4, o4, b4⟩
    simp only at o4
    have L4 := owns_lt o4
    obtain ⟨x0, x1⟩ := box2 b4
    have b4w := below_box b4
    have u0 := keep_cell b4w u0
    have u1 := keep_cell b4w u1
    have s0 := keep_cell b4w s0
    have s1 := keep_cell b4w s1
    have s2' := keep_cell b4w s2'
    have s3 := keep_cell b4w s3
    have s2 := owns_below s2 b4w
    have p3 := owns_below p3 b4w
    have p4 := owns_below p4 b4w
    have b4A := b3A.trans (b4w.mono b3A.size)
    have zx := lt_of_cell x0
    have z4 := b4.size
    simp at z4 L4
    have HM : k4 = k2 := by have q2 := s2.1; have q4 := o4.1; omega
    subst HM
    have zs4 := lt_of_cell s0
    obtain ⟨t, ht⟩ : ∃ t, t = 1 + k4 + 0 := ⟨_, rfl⟩
    have hq : ((t : Int) != (t : Int)) = false := by simp
    have hq0 : ¬ (t : Int) < 0 := by omega
    have HT : Hid (1 + k4 + 0 = t) := ht.symm
    clear ht
    clear b4 b4w b3A
    go_wp2_with fail
    refine (eqWalResult_same _ _ a4 none a2 e2 k4 0 c4 0 c2 f2 fs [] _ (owns_bytes (o4.alloc _)) (nil_cells _ _) (owns_bytes (s2.alloc _)) (nil_cells _ _) (by omega) (by omega)).mono ?_
    rintro e w5 ⟨rfl, b5⟩
    obtain ⟨y0, y1, y2, y3⟩ := box4 b5
    have b5 := below_box b5
    have b5A := b4A.trans (b5.mono b4A.size)
    have u0 := keep_cell b5 u0
    have u1 := keep_cell b5 u1
    have s0 := keep_cell b5 s0
    have s1 := keep_cell b5 s1
    have s2' := keep_cell b5 s2'
    have s3 := keep_cell b5 s3
    have x0 := keep_cell b5 x0
    have x1 := keep_cell b5 x1
    have s2 := owns_below s2 b5
    have o4 := owns_below o4 b5
    have p3 := owns_below p3 b5
    have p4 := owns_below p4 b5
    have zy := lt_of_cell y0
    clear b4A b5
    go_wp2_with fail
    have bA := below_box b5A
    have HS : Hid (∀ W', Below w5.heap.size w5 W' → W'.cell? ⟨w3.heap.size, 0, none⟩ = some (.slice (some ⟨g3, 0, none⟩) n n) ∧ W'.cell? ⟨w3.heap.size, 1, none⟩ = some (.slice (some ⟨g4, 0, none⟩) m m) ∧ W'.cell? ⟨w.heap.size, 0, none⟩ = some (.slice a n cap) ∧ W'.cell? ⟨w.heap.size, 1, none⟩ = some (.slice a' m cap') ∧ Below w5.heap.size w5 W') := fun W' hb' => ⟨keep_cell hb' x0, keep_cell hb' x1, keep_cell hb' u0, keep_cell hb' u1, hb'⟩
    refine wp_region_noPanic ?_
    refine wp_region_held_drew (S := fun W' => W'.cell? ⟨w3.heap.size, 0, none⟩ = some (.slice (some ⟨g3, 0, none⟩) n n) ∧ W'.cell? ⟨w3.heap.size, 1, none⟩ = some (.slice (some ⟨g4, 0, none⟩) m m) ∧ W'.cell? ⟨w.heap.size, 0, none⟩ = some (.slice a n cap) ∧ W'.cell? ⟨w.heap.size, 1, none⟩ = some (.slice a' m cap') ∧ Below w5.heap.size w5 W') (by kernel_rfl) (HS.out _ (Below.refl _ _).drew) (fun hH => ?_)
    refine hTake (i := 0) (v := ?_) rfl (by kernel_rfl) (by kernel_rfl) (by kernel_rfl) (by rfl) ?_ hH ?_
    rotate_left
    · intro W hW; (try dsimp only at hW); go_simp <;> with_reducible rfl
    simp only [Act.put, List.setIfInBounds_toArray, List.set_cons_zero, List.set_cons_succ]
    refine hTake (i := 1) (v := ?_) rfl (by kernel_rfl) (by kernel_rfl) (by kernel_rfl) (by rfl) ?_ hH ?_
    rotate_left
    · intro W hW; (try dsimp only at hW); go_simp <;> with_reducible rfl
    simp only [Act.put, List.setIfInBounds_toArray, List.set_cons_zero, List.set_cons_succ]
    refine wpAnyH_ready (rs := [2]) (by kernel_rfl) (by simp) ?_
    refine AllReadyH.cons rfl (fun K hK => ?_) AllReadyH.nil
    go_simp
    refine (toWal_any a a' n m cap cap' ss ls _ (h.below (bA.trans (hH.2.2.2.2.mono bA.size))) (h'.below (bA.trans (hH.2.2.2.2.mono bA.size))) hn' hm').mono ?_
    rintro e w6 ⟨g5, g6, rfl, o5, o6, hg5, b6⟩
    have b6A := hH.2.2.2.2.trans (b6.mono (by simp))
    go_wp2_with fail
    refine hK.out _ _ ?_ (fun hH => ?_)
    · exact HS.out _ b6A
    clear hK K
    refine wpAnyH_ready (rs := [3]) (by kernel_rfl) (by simp) ?_
    refine AllReadyH.cons rfl (fun K hK => ?_) AllReadyH.nil
    go_simp
    refine (eqWal_same _ _ _ _ n m n m n m ss ls _ (owns_bytes (owns_below p3 b6A)) (owns_bytes (owns_below p4 b6A)) (owns_bytes o5) (owns_bytes o6) (by omega) (by omega)).mono ?_
    rintro e w7 ⟨rfl, b7⟩
    have b7A := b6A.trans (b7.mono b6A.size)
    go_wp2_with fail
    refine hK.out _ _ ?_ (fun hH => ?_)
    · exact HS.out _ b7A
    clear hK K
    refine hTake (i := 4) (v := ?_) rfl (by kernel_rfl) (by kernel_rfl) (by kernel_rfl) (by rfl) ?_ hH ?_
    rotate_left
    · intro W hW; (try dsimp only at hW); go_simp <;> with_reducible rfl
    simp only [Act.put, List.setIfInBounds_toArray, List.set_cons_zero, List.set_cons_succ]
    refine wpAnyH_done (by kernel_rfl) ?_ _
    refine NoPanic.normal ?_
    clear hH HS o5 o6 b6 b6A b7 bA
    have b7B := b5A.trans (b7A.mono b5A.size)
    have u0 := keep_cell b7A u0
    have u1 := keep_cell b7A u1
    have s0 := keep_cell b7A s0
    have s1 := keep_cell b7A s1
    have s2' := keep_cell b7A s2'
    have s3 := keep_cell b7A s3
    have x0 := keep_cell b7A x0
    have x1 := keep_cell b7A x1
    have y0 := keep_cell b7A y0
    have y1 := keep_cell b7A y1
    have y2 := keep_cell b7A y2
    have y3 := keep_cell b7A y3
    have s2 := owns_below s2 b7A
    have o4 := owns_below o4 b7A
    have p3 := owns_below p3 b7A
    have p4 := owns_below p4 b7A
    have z7 := b7A.size
    clear b7A b5A
    go_wp2_with fail
    refine (markWal_any _ _ _ _ n m n m ss ls _ p3 p4 (fun g hg hk => by simp [Value.ownBlock] at hg hk; omega) hn' hm').mono ?_
    rintro e w8 ⟨rfl, _, _, wm, gA, gB⟩
    have hA : (Value.slice (some ⟨g3, 0, none⟩) n n).ownBlock = some g3 := rfl
    have hB : (Value.slice (some ⟨g4, 0, none⟩) m m).ownBlock = some g4 := rfl
    rw [hA] at gA
    rw [hB] at gB
    have b8B := (b7B.grown gA b7B.size (fun k hk => by simp at hk; simp; omega)).grown gB (Nat.le_trans b7B.size gA.size) (fun k hk => by simp at hk; simp; omega)
    have u0 := grown_cell gA u0 (by simp; omega)
    have u1 := grown_cell gA u1 (by simp; omega)
    have s0 := grown_cell gA s0 (by simp; omega)
    have s1 := grown_cell gA s1 (by simp; omega)
    have s2' := grown_cell gA s2' (by simp; omega)
    have s3 := grown_cell gA s3 (by simp; omega)
    have x0 := grown_cell gA x0 (by simp; omega)
    have x1 := grown_cell gA x1 (by simp; omega)
    have y0 := grown_cell gA y0 (by simp; omega)
    have y1 := grown_cell gA y1 (by simp; omega)
    have y2 := grown_cell gA y2 (by simp; omega)
    have y3 := grown_cell gA y3 (by simp; omega)
    have u0 := grown_cell gB u0 (by simp; omega)
    have u1 := grown_cell gB u1 (by simp; omega)
    have s0 := grown_cell gB s0 (by simp; omega)
    have s1 := grown_cell gB s1 (by simp; omega)
    have s2' := grown_cell gB s2' (by simp; omega)
    have s3 := grown_cell gB s3 (by simp; omega)
    have x0 := grown_cell gB x0 (by simp; omega)
    have x1 := grown_cell gB x1 (by simp; omega)
    have y0 := grown_cell gB y0 (by simp; omega)
    have y1 := grown_cell gB y1 (by simp; omega)
    have y2 := grown_cell gB y2 (by simp; omega)
    have y3 := grown_cell gB y3 (by simp; omega)
    have s2 := owns_grown (owns_grown s2 gA (fun g hg => by have := L2 g hg; simp; omega)) gB (fun g hg => by have := L2 g hg; simp; omega)
    have o4 := owns_grown (owns_grown o4 gA (fun g hg => by have := L4 g hg; simp; omega)) gB (fun g hg => by have := L4 g hg; simp; omega)
    clear gA gB hA hB b7B p3 p4
    generalize hr : 1 + n + m = r at *
    have hr0 : ¬ (r : Int) < 0 := by omega
    go_wp2_with fail
    refine (eqWalResult_same _ _ a4 none a2 e2 k4 0 c4 0 c2 f2 fs [] _ (owns_bytes o4) (nil_cells _ _) (owns_bytes s2) (nil_cells _ _) (by omega) (by omega)).mono ?_
    rintro e w9 ⟨rfl, b9⟩
    have b9B := b8B.trans (b9.mono b8B.size)
    have u0 := keep_cell b9 u0
    have u1 := keep_cell b9 u1
    have s0 := keep_cell b9 s0
    have s1 := keep_cell b9 s1
    have s2' := keep_cell b9 s2'
    have s3 := keep_cell b9 s3
    have x0 := keep_cell b9 x0
    have x1 := keep_cell b9 x1
    have y0 := keep_cell b9 y0
    have y1 := keep_cell b9 y1
    have y2 := keep_cell b9 y2
    have y3 := keep_cell b9 y3
    have s2 := owns_below s2 b9
    have o4 := owns_below o4 b9
    clear b9 b8B
    go_wp2_with fail
    refine (markWalResult_any _ _ _ 0 a4 none k4 0 c4 0 fs [] _ o4 (World.ownsRow_nil _ _ _ _) (fun g _ hk => by simp [Value.ownBlock] at hk) (by omega) (by omega)).mono ?_
    rw [HT.out]
    rintro e w10 ⟨rfl, o5, _, wn, gC, gD⟩
    have hD : (Value.slice none 0 0).ownBlock = none := rfl
    rw [hD] at gD
    have b10B := (b9B.grown gC b9B.size (fun k hk => by have := L4 k hk; simp; omega)).grown gD (Nat.le_trans b9B.size gC.size) (fun k hk => by simp at hk)
    have u0 := grown_cell gC u0 (fun hk => by have := L4 _ hk; omega)
    have u1 := grown_cell gC u1 (fun hk => by have := L4 _ hk; omega)
    have s0 := grown_cell gC s0 (fun hk => by have := L4 _ hk; omega)
    have s1 := grown_cell gC s1 (fun hk => by have := L4 _ hk; omega)
    have s2' := grown_cell gC s2' (fun hk => by have := L4 _ hk; omega)
    have s3 := grown_cell gC s3 (fun hk => by have := L4 _ hk; omega)
    have x0 := grown_cell gC x0 (fun hk => by have := L4 _ hk; omega)
    have x1 := grown_cell gC x1 (fun hk => by have := L4 _ hk; omega)
    have y0 := grown_cell gC y0 (fun hk => by have := L4 _ hk; omega)
    have y1 := grown_cell gC y1 (fun hk => by have := L4 _ hk; omega)
    have y2 := grown_cell gC y2 (fun hk => by have := L4 _ hk; omega)
    have y3 := grown_cell gC y3 (fun hk => by have := L4 _ hk; omega)
    have u0 := grown_cell gD u0 (by simp)
    have u1 := grown_cell gD u1 (by simp)
    have s0 := grown_cell gD s0 (by simp)
    have s1 := grown_cell gD s1 (by simp)
    have s2' := grown_cell gD s2' (by simp)
    have s3 := grown_cell gD s3 (by simp)
    have x0 := grown_cell gD x0 (by simp)
    have x1 := grown_cell gD x1 (by simp)
    have y0 := grown_cell gD y0 (by simp)
    have y1 := grown_cell gD y1 (by simp)
    have y2 := grown_cell gD y2 (by simp)
    have y3 := grown_cell gD y3 (by simp)
    have s2 := owns_grown (owns_grown s2 gC (fun g hg hk => by have := L2 g hg; have := L4 g hk; omega)) gD (fun g hg => by simp)
    clear gC gD hD b9B o4
    go_wp2_with fail
    refine (heldWalResult_any _ _ a4 none k4 0 c4 0 _ (owns_bytes o5) (nil_cells _ _) (by omega) (by omega)).mono ?_
    rw [HT.out]
    rintro e w11 ⟨rfl, b11⟩
    have b11B := b10B.trans (b11.mono b10B.size)
    have u0 := keep_cell b11 u0
    have u1 := keep_cell b11 u1
    have s0 := keep_cell b11 s0
    have s1 := keep_cell b11 s1
    have s2' := keep_cell b11 s2'
    have s3 := keep_cell b11 s3
    have x0 := keep_cell b11 x0
    have x1 := keep_cell b11 x1
    have y0 := keep_cell b11 y0
    have y1 := keep_cell b11 y1
    have y2 := keep_cell b11 y2
    have y3 := keep_cell b11 y3
    have s2 := owns_below s2 b11
    have o5 := owns_below o5 b11
    clear b11 b10B
    go_wp2_with fail
    refine (toWal_any a a' n m cap cap' ss ls _ (h.below (below_box b11B)) (h'.below (below_box b11B)) hn' hm').mono ?_
    rintro e w12 ⟨g7, g8, rfl, q7, q8, hg78, b12⟩
    have b12B := b11B.trans (b12.mono b11B.size)
    have u0 := keep_cell b12 u0
    have u1 := keep_cell b12 u1
    have s0 := keep_cell b12 s0
    have s1 := keep_cell b12 s1
    have s2' := keep_cell b12 s2'
    have s3 := keep_cell b12 s3
    have x0 := keep_cell b12 x0
    have x1 := keep_cell b12 x1
    have y0 := keep_cell b12 y0
    have y1 := keep_cell b12 y1
    have y2 := keep_cell b12 y2
    have y3 := keep_cell b12 y3
    have s2 := owns_below s2 b12
    have o5 := owns_below o5 b12
    clear b12 b11B
    go_wp2_with fail
    refine (implCrash_any ⟨g7, 0, none⟩ ⟨g8, 0, none⟩ n m n m kept ss ls _ (owns_bytes q7) (owns_bytes q8) hb hb' hn' hm' (Nat.le_refl _) (Nat.le_refl _)).mono ?_
    rw [hfr]
    rintro e w13 ⟨a13, k13, c13, rfl, hk13, o13, b13⟩
    simp only at o13
    have b13B := b12B.trans (b13.mono b12B.size)
    have u0 := keep_cell b13 u0
    have u1 := keep_cell b13 u1
    have s0 := keep_cell b13 s0
    have s1 := keep_cell b13 s1
    have s2' := keep_cell b13 s2'
    have s3 := keep_cell b13 s3
    have x0 := keep_cell b13 x0
    have x1 := keep_cell b13 x1
    have y0 := keep_cell b13 y0
    have y1 := keep_cell b13 y1
    have y2 := keep_cell b13 y2
    have y3 := keep_cell b13 y3
    have s2 := owns_below s2 b13
    have o5 := owns_below o5 b13
    have HM : k13 = k4 := by have q2 := s2.1; have q4 := o13.1; omega
    subst HM
    have zs13 := lt_of_cell s0
    have zy13 := lt_of_cell y0
    clear b13 b12B q7 q8
    go_wp2_with fail
    refine (eqWalResult_same _ _ a13 none a2 e2 k13 0 c13 0 c2 f2 fs [] _ (owns_bytes (o13.alloc _)) (nil_cells _ _) (owns_bytes (s2.alloc _)) (nil_cells _ _) (by omega) (by omega)).mono ?_
    rintro e w14 ⟨rfl, b14⟩
    have b14 := below_box b14
    have b14B := b13B.trans (b14.mono b13B.size)
    have y0 := keep_cell b14 y0
    have y1 := keep_cell b14 y1
    have y2 := keep_cell b14 y2
    have y3 := keep_cell b14 y3
    have o5 := owns_below o5 b14
    clear b14 b13B u0 u1 s0 s1 s2' s3 x0 x1 s2
    go_wp2_with fail
    refine (heldWalResult_any _ _ a4 none k13 0 c4 0 _ (owns_bytes o5) (nil_cells _ _) (by omega) (by omega)).mono ?_
    rw [HT.out]
    rintro e w15 ⟨rfl, b15⟩
    go_wp2
    go_ret
    exact ⟨rfl, below_box (b14B.trans (b15.mono b14B.size))⟩
  · go_enter Try.func7, Try.ntmps7
    go_wp2_with fail
    refine (szWal_big a a' n m cap cap' _ hs hn hm).mono ?_
    rintro e w0 ⟨rfl, bz⟩
    go_wp2
    go_ret
    exact ⟨rfl, below_box bz⟩
end Go.Proofs.Ytapahapjajijeaa
