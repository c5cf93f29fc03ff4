/- Several texts in one: SetQ, BfL. -/
import Derived.Test.YtjagobcogkdfhaaSetI
import Derived.Test.YtjagobcogkdfhaaBVZ


/- Results of leaves and records in the laws: compared, marked, marks read again. -/
namespace Go.Proofs.Ytjagobcogkdfhaa
open Go.RowKit

/-- The same, all of it from B to T. -/
def OwnT (w : World) (B T : Nat) (lv : Value) (m : Nat) (ls : List (List Ch.Row)) (rv : Value) (p : Nat) (rs : List Ch.Rec) : Prop :=
  ∃ vs lo hi, OwnV w B lv m vs ls ∧ w.ownsRow B 71 7 rv p (rc7 rs) ∧ B ≤ lo ∧ hi ≤ T ∧ T ≤ w.heap.size ∧ (∀ g, lv.ownBlock = some g → lo ≤ g ∧ g < hi) ∧ (∀ (i : Nat) (x : Value) (g : Nat), vs[i]? = some x → x.ownBlock = some g → lo ≤ g ∧ g < hi) ∧ (∀ g, rv.ownBlock = some g → (g < lo ∨ hi ≤ g) ∧ g < T)
theorem OwnU.top {w : World} {B m p : Nat} {lv rv : Value} {ls : List (List Ch.Row)} {rs : List Ch.Rec} (h : OwnU w B lv m ls rv p rs) : OwnT w B w.heap.size lv m ls rv p rs := by
  obtain ⟨vs, lo, hi, h1, h2, h3, h4, h5, h6, h7⟩ := h
  exact ⟨vs, lo, hi, h1, h2, h3, h4, Nat.le_refl _, h5, h6, fun g hg => ⟨h7 g hg, (owns_lt h2 g hg).2⟩⟩
theorem OwnT.own {w : World} {B T m p : Nat} {lv rv : Value} {ls : List (List Ch.Row)} {rs : List Ch.Rec} (h : OwnT w B T lv m ls rv p rs) : OwnU w B lv m ls rv p rs := by
  obtain ⟨vs, lo, hi, h1, h2, h3, h4, h4', h5, h6, h7⟩ := h
  exact ⟨vs, lo, hi, h1, h2, h3, Nat.le_trans h4 h4', h5, h6, fun g hg => (h7 g hg).1⟩
theorem OwnT.below {w w' : World} {B T m p : Nat} {lv rv : Value} {ls : List (List Ch.Row)} {rs : List Ch.Rec} (h : OwnT w B T lv m ls rv p rs) (hb : Below w.heap.size w w') : OwnT w' B T lv m ls rv p rs := by
  obtain ⟨vs, lo, hi, h1, h2, h3, h4, h4', h5⟩ := h
  exact ⟨vs, lo, hi, h1.below hb, owns_below h2 hb, h3, h4, Nat.le_trans h4' hb.size, h5⟩
theorem OwnT.within {lo' hi' : Nat} {w w' : World} {B T m p : Nat} {lv rv : Value} {ls : List (List Ch.Row)} {rs : List Ch.Rec} (h : OwnT w B T lv m ls rv p rs) (hw : Within lo' hi' w w') (hB : hi' ≤ B) : OwnT w' B T lv m ls rv p rs := by
  obtain ⟨vs, lo, hi, h1, h2, h3, h4, h4', h5, h6, h7⟩ := h
  exact ⟨vs, lo, hi, h1.within hw (fun g hg => .inr (by have := h5 g hg; omega)) (fun i x g hx hg => .inr (by have := h6 i x g hx hg; omega)), hw.owns h2 (fun g hg => .inr (by have := (owns_lt h2 g hg).1; omega)), h3, h4, Nat.le_trans h4' hw.size, h5, h6, h7⟩

set_option maxHeartbeats 800000 in
theorem eqUndo_same (c : Int) (B B' : Nat) (a a' r r' : Option Addr) (m cap cap' p q q' : Nat) (ls : List (List Ch.Row)) (rs : List Ch.Rec) (w : World) (h : OwnU w B (.slice a m cap) m ls (.slice r p q) p rs) (h' : OwnU w B' (.slice a' m cap') m ls (.slice r' p q') p rs) (hs : Ch.lvSize ls ≤ 1048576) (hp : p ≤ 1048576) :
    Calls Try.prog 63 #[.agg #[.int .i64 c, .slice a m cap, .slice r p q], .agg #[.int .i64 c, .slice a' m cap', .slice r' p q']] w fun e w' => e = .returned (.bool true) ∧ Below w.heap.size w w' := by
  have hcc : (c != c) = false := by simp
  have b0 : Below w.heap.size w ((w.alloc (.cells #[.int .i64 c, .slice a m cap, .slice r p q] 61)).alloc (.cells #[.int .i64 c, .slice a' m cap', .slice r' p q'] 61)) := ((Below.refl _ _).alloc (Nat.le_refl _) _).alloc (by simp) _
  go_enter Try.func63, Try.ntmps63
  go_wp2_with fail
  refine (eqLeafS_same a a' m cap cap' ls _ ((h.below b0).lv hs) ((h'.below b0).lv hs) hs).mono ?_
  rintro e w1 ⟨rfl, b1⟩
  have bE := b0.trans (b1.mono b0.size)
  obtain ⟨x0, x1, x2, _, _, _⟩ := three_box (below_box b1)
  obtain ⟨y0, y1, y2, _, _, _⟩ := three_box b1
  simp at y0 y1 y2
  clear b1
  go_wp2_with fail
  refine (eqRecS_same r r' p q q' rs _ (h.below bE).rc (h'.below bE).rc hp).mono ?_
  rintro e w2 ⟨rfl, b2⟩
  go_wp2
  go_ret
  exact ⟨rfl, bE.trans (b2.mono bE.size)⟩

set_option maxHeartbeats 800000 in
theorem markUndo_any (c : Int) (B T : Nat) (a r : Option Addr) (m cap p q : Nat) (ls : List (List Ch.Row)) (rs : List Ch.Rec) (w : World) (h : OwnT w B T (.slice a m cap) m ls (.slice r p q) p rs) (hs : Ch.lvSize ls ≤ 1048576) (hp : p ≤ 1048576) :
    Calls Try.prog 65 #[.agg #[.int .i64 c, .slice a m cap, .slice r p q], .int .i64 1] w fun e w' => e = .returned (.int .i64 (1 + 3 * (Ch.before ls m : Int) + 7 * p)) ∧ OwnT w' B T (.slice a m cap) m (lvMarks ls) (.slice r p q) p (marks7 (1 + 3 * (Ch.before ls m : Int)) p) ∧ Within B T w w' := by
  have b0 : Below w.heap.size w (w.alloc (.cells #[.int .i64 c, .slice a m cap, .slice r p q] 61)) := (Below.refl _ _).alloc (Nat.le_refl _) _
  obtain ⟨vs, lo, hi, h1, h2, h3, h4, h4t, h5, h6, h7⟩ := h
  have hbs := Ch.before_small hs m
  go_enter Try.func65, Try.ntmps65
  go_wp2_with fail
  refine (markLeafS_V B lo hi a m cap vs ls _ (h1.below b0) h6 hs).mono ?_
  rintro e w1 ⟨rfl, o1, wi1⟩
  have x0 := within_cell wi1 (b := w.heap.size) (o := 0) (v := .int .i64 c) (by simp [go_sem]) (.inr (Nat.le_trans h4 h4t))
  have x1 := within_cell wi1 (b := w.heap.size) (o := 1) (v := .slice a m cap) (by simp [go_sem]) (.inr (Nat.le_trans h4 h4t))
  have x2 := within_cell wi1 (b := w.heap.size) (o := 2) (v := .slice r p q) (by simp [go_sem]) (.inr (Nat.le_trans h4 h4t))
  have r1 := wi1.owns (owns_below h2 b0) (fun g hg => (h7 g hg).1)
  have z1 := wi1.size
  simp at z1
  generalize hkk : Ch.before ls m = k at *
  go_wp2_with fail
  refine (markRecS_any (1 + 3 * (k : Int)) B p r q rs _ (by omega) (by omega) r1 (by omega)).mono ?_
  rintro e w2 ⟨rfl, r2, gr2⟩
  have z2 := gr2.size
  go_wp2
  go_ret
  subst hkk
  refine ⟨rfl, ⟨vs, lo, hi, ?_, r2, h3, h4, by omega, h5, h6, h7⟩, ?_⟩
  · obtain ⟨hl, ho, hi', hd, hd'⟩ := o1
    refine ⟨hl, owns_grown ho gr2 (fun g hg hk => by have := h5 g hg; have := h7 g hk; omega), fun i hlt => ?_, hd, hd'⟩
    obtain ⟨x, e1, e2⟩ := hi' i hlt
    exact ⟨x, e1, owns_grown e2 gr2 (fun g hg hk => by have := h6 i x g e1 hg; have := h7 g hk; omega)⟩
  · have w1' : Within B T w w1 := by
      refine ⟨wi1.os.trans b0.os, wi1.tape.trans b0.tape, wi1.output.trans b0.output, Nat.le_trans b0.size wi1.size, fun j hj hne => ?_⟩
      exact (wi1.block j (Nat.lt_of_lt_of_le hj b0.size) (by omega)).trans (b0.block j hj)
    rcases r1.2 with ⟨hv, _⟩ | ⟨g, cp, cur, hv, _⟩
    · rw [hv] at gr2
      exact w1'.trans ⟨gr2.os, gr2.tape, gr2.output, gr2.size, fun j hj _ => gr2.block j hj (by simp [Value.ownBlock])⟩
    · have hgb := h7 g (by rw [hv]; rfl)
      have hgB := (owns_lt r1 g (by rw [hv]; rfl)).1
      rw [hv] at gr2
      exact w1'.trans (within_grown gr2 hgB hgb.2)

set_option maxHeartbeats 800000 in
theorem heldUndo_any (c : Int) (B : Nat) (a r : Option Addr) (m cap p q : Nat) (ls : List (List Ch.Row)) (w : World) (h : OwnU w B (.slice a m cap) m (lvMarks ls) (.slice r p q) p (marks7 (1 + 3 * (Ch.before ls m : Int)) p)) (hs : Ch.lvSize ls ≤ 1048576) (hp : p ≤ 1048576) :
    Calls Try.prog 66 #[.agg #[.int .i64 c, .slice a m cap, .slice r p q], .int .i64 1] w fun e w' => e = .returned (.int .i64 (1 + 3 * (Ch.before ls m : Int) + 7 * p)) ∧ Below w.heap.size w w' := by
  have b0 : Below w.heap.size w (w.alloc (.cells #[.int .i64 c, .slice a m cap, .slice r p q] 61)) := (Below.refl _ _).alloc (Nat.le_refl _) _
  have hbs := Ch.before_small hs m
  have hl : LvAt (w.alloc (.cells #[.int .i64 c, .slice a m cap, .slice r p q] 61)) a m (lvMarks ls) := by
    obtain ⟨vs, lo, hi, h1, _⟩ := h
    exact (h1.below b0).own.at (small_marks (small_at hs))
  have hr := (h.below b0).rc
  go_enter Try.func66, Try.ntmps66
  go_wp2_with fail
  refine (heldLeafS_any a m cap ls _ hl hs).mono ?_
  rintro e w1 ⟨rfl, rfl⟩
  generalize hkk : Ch.before ls m = k at *
  have hk0 : ¬ (1 + 3 * (k : Int)) < 0 := by omega
  have hk1 : ¬ (1 + 3 * (k : Int) + 7 * (p : Int)) < 0 := by omega
  go_wp2_with fail
  refine (heldRecS_any (1 + 3 * (k : Int)) r p q _ (by omega) (by omega) hr (by omega)).mono ?_
  rintro e w2 ⟨rfl, rfl⟩
  go_wp2
  go_ret
  subst hkk
  exact ⟨rfl, b0⟩
end Go.Proofs.Ytjagobcogkdfhaa


/- The law FnExactBeforesFault. -/
namespace Go.Proofs.Ytjagobcogkdfhaa
open Go.RowKit

theorem toBefS_at (H : Nat) (a : Option Addr) (n cap : Nat) (rs : List Ch.Bf) (w : World) (hH : w.heap.size = H) (h : CellsAt w a (n * 3) (bfcells rs)) (hn : n ≤ 1048576) :
    Calls Try.prog 56 #[.slice a n cap] w fun e w' => e = .returned (.slice (some ⟨H, 0, none⟩) n n) ∧
      w'.ownsRow H 64 3 (.slice (some ⟨H, 0, none⟩) n n) n (bfcells rs) ∧ Below w.heap.size w w' := by
  subst hH
  exact toBefS_any a n cap rs w h hn

set_option maxHeartbeats 400000 in
theorem lawBefores_any (a : Option Addr) (n cap : Nat) (bs : List Ch.Bf) (w : World) (h : CellsAt w a (n * 3) (bfcells bs)) (hm : n ≤ 9223372036854775807) :
    Calls Try.prog 10 #[.slice a n cap] w fun e w' => e = .returned (.bool true) ∧ Below w.heap.size w w' := by
  have SZ := fun W => szBef_from a n cap 1048576 W (by omega) hm
  by_cases hbig : 1048576 < n
  · rw [if_neg (by omega)] at SZ
    go_enter Try.func10, Try.ntmps10
    go_wp2_with fail
    refine (SZ _).mono ?_
    rintro e w1 ⟨rfl, rfl⟩
    go_wp2
    go_ret
    exact ⟨rfl, Below.refl _ _⟩
  · have hn : n ≤ 1048576 := by omega
    rw [if_pos hn] at SZ
    clear hbig
    have SI := fun (W : World) (A : Option Addr) (hW : CellsAt W A (n * 3) (bfcells bs)) => specBefores_any A n n bs W hW hn
    have II := fun (W : World) (A : Option Addr) (hW : CellsAt W A (n * 3) (bfcells bs)) => implBefores_any A n n bs W hW hn
    generalize Ch.befFault bs = c at *
    have hcc : (c != c) = false := by simp
    have hl0 : ¬ ((1048576 : Nat) : Int) - (n : Int) < 0 := by omega
    generalize ((1048576 : Nat) : Int) - (n : Int) = L at *
    go_enter Try.func10, Try.ntmps10
    go_wp2_with fail
    refine (SZ _).mono ?_
    rintro e w0 ⟨rfl, rfl⟩
    go_wp2_with fail
    refine (toBefS_any a n cap bs _ h hn).mono ?_
    rintro e w1 ⟨rfl, o1, b1⟩
    go_wp2_with fail
    refine (SI _ _ (owns_cells o1)).mono ?_
    rintro e w2 ⟨rfl, b2⟩
    have b2' := b1.trans (b2.mono b1.size)
    go_wp2_with fail
    refine (toBefS_any a n cap bs _ (h.below b2') hn).mono ?_
    rintro e w3 ⟨rfl, o3, b3⟩
    have b3' := b2'.trans (b3.mono b2'.size)
    go_wp2_with fail
    refine (II _ _ (owns_cells o3)).mono ?_
    rintro e w4 ⟨rfl, b4⟩
    have b4' := b3'.trans (b4.mono b3'.size)
    have o4 := owns_below o3 b4
    go_wp2_with fail
    refine (toBefS_any a n cap bs _ (h.below b4') hn).mono ?_
    rintro e w5 ⟨rfl, o5, b5⟩
    have b5' := b4'.trans (b5.mono b4'.size)
    have o6 := owns_below o4 b5
    go_wp2_with fail
    refine (eqBefS_same _ _ n n n bs _ (owns_cells o6) (owns_cells o5) (by omega)).mono ?_
    rintro e w6 ⟨rfl, b6⟩
    go_wp2
    go_ret
    exact ⟨rfl, b5'.trans (b6.mono b5'.size)⟩
end Go.Proofs.Ytjagobcogkdfhaa

