/- PackRec of the model; both in one form; the law FnExactPackRec. -/
import Derived.Test.YtiommhbfbigjmaaPackB
namespace Go.Proofs.Ytiommhbfbigjmaa
open Go.RowKit

set_option maxHeartbeats 400000 in
theorem specPackRec_no (kd tx ky : Int) (hd : Bool) (ol : Int) (hs : Bool) (nw : Int) (w : World) (c : Int) (h0 : Ch.Rec.fault ⟨kd, tx, ky, hd, ol, hs, nw⟩ = c) (hc : (c != 0) = true) :
    Calls Try.prog 26 #[.agg #[.int .i64 kd, .int .i64 tx, .int .i64 ky, .bool hd, .int .i64 ol, .bool hs, .int .i64 nw]] w fun e w' => e = .returned (.agg #[.int .i64 c, .slice none 0 0]) ∧ Below w.heap.size w w' := by
  go_enter Try.func26, Try.ntmps26
  go_wp2_with fail
  refine (specRec_any _ _ _ _ _ _ _ _).mono ?_
  rw [h0]
  rintro e w1 ⟨rfl, b1⟩
  have b1' := below_box2 b1
  have q0 := box_at2 b1' 0
  have q1 := box_at2 b1' 1
  have f0 := b1'.frozen (p := ⟨w.heap.size + 1, 0, none⟩) (by simp)
  have f1 := b1'.frozen (p := ⟨w.heap.size + 1, 1, none⟩) (by simp)
  simp [go_sem] at q0 q1 f0 f1
  go_wp2
  exact bodyPost_ret (v := .agg #[.int .i64 c, .slice none 0 0]) (by simp [results, Try.results26, go_sem, q0, q1]) rfl ⟨rfl, ((below_boxS (below_boxT b1')).setCell (p := ⟨w.heap.size + 1, 0, none⟩) (by simp) _).setCell (p := ⟨w.heap.size + 1, 1, none⟩) (by simp) _⟩

set_option maxHeartbeats 400000 in
theorem specPackRec_ok (kd tx ky : Int) (hd : Bool) (ol : Int) (hs : Bool) (nw : Int) (w : World) (h0 : Ch.Rec.fault ⟨kd, tx, ky, hd, ol, hs, nw⟩ = 0) :
    Calls Try.prog 26 #[.agg #[.int .i64 kd, .int .i64 tx, .int .i64 ky, .bool hd, .int .i64 ol, .bool hs, .int .i64 nw]] w fun e w' => ∃ g cp, e = .returned (.agg #[.int .i64 0, .slice (some ⟨g, 0, none⟩) (Ch.Rec.len ⟨kd, tx, ky, hd, ol, hs, nw⟩) cp]) ∧ w'.ownsRow w.heap.size 5 1 (.slice (some ⟨g, 0, none⟩) (Ch.Rec.len ⟨kd, tx, ky, hd, ol, hs, nw⟩) cp) (Ch.Rec.len ⟨kd, tx, ky, hd, ol, hs, nw⟩) (bts (Ch.Rec.bytes ⟨kd, tx, ky, hd, ol, hs, nw⟩)) ∧ Below w.heap.size w w' := by
  have fit := Ch.Rec.fit h0
  go_enter Try.func26, Try.ntmps26
  go_wp2_with fail
  refine (specRec_any _ _ _ _ _ _ _ _).mono ?_
  rw [h0]
  rintro e w1 ⟨rfl, b1⟩
  have b1' := below_box2 b1
  have z1 := b1'.size
  simp at z1
  obtain ⟨c1, f1⟩ := bcell b1
  have r0 := box_at (below_boxT b1') 0
  have r1 := box_at (below_boxT b1') 1
  have r2 := box_at (below_boxT b1') 2
  have r3 := box_at (below_boxT b1') 3
  have r4 := box_at (below_boxT b1') 4
  have r5 := box_at (below_boxT b1') 5
  have r6 := box_at (below_boxT b1') 6
  simp at r0 r1 r2 r3 r4 r5 r6
  clear c1 f1
  go_wp2_with fail
  refine (l2Pack_any _ _ _ _ _ _ _ _ fit).mono ?_
  rintro e w2 ⟨g, cp, rfl, own, b2⟩
  have b2' := b1'.trans (b2.mono (by omega))
  have hg := owns_bounds own
  have q0 := box_at2 b2' 0
  have q1 := box_at2 b2' 1
  have f0 := b2'.frozen (p := ⟨w.heap.size + 1, 0, none⟩) (by simp)
  have f1 := b2'.frozen (p := ⟨w.heap.size + 1, 1, none⟩) (by simp)
  simp [go_sem] at q0 q1 f0 f1
  clear r0 r1 r2 r3 r4 r5 r6
  generalize hl : Ch.Rec.len ⟨kd, tx, ky, hd, ol, hs, nw⟩ = len at *
  go_wp2
  rw [hl]
  refine bodyPost_ret (v := .agg #[.int .i64 0, .slice (some ⟨g, 0, none⟩) len cp]) (by simp [results, Try.results26, go_sem, q0, q1]) rfl ⟨g, cp, rfl, ?_, ((below_boxS (below_boxT b2')).setCell (p := ⟨w.heap.size + 1, 0, none⟩) (by simp) _).setCell (p := ⟨w.heap.size + 1, 1, none⟩) (by simp) _⟩
  exact owns_base (ownsRow_setCell_below (ownsRow_setCell_below own (by simp; omega) _) (by simp; omega) _) (by omega)

/-- The bytes that PackRec hands back. -/
def Ch.Rec.res (r : Ch.Rec) : List Int := if r.fault = 0 then r.bytes else []

theorem implPackRec_any (kd tx ky : Int) (hd : Bool) (ol : Int) (hs : Bool) (nw : Int) (w : World) :
    Calls Try.prog 14 #[.agg #[.int .i64 kd, .int .i64 tx, .int .i64 ky, .bool hd, .int .i64 ol, .bool hs, .int .i64 nw]] w fun e w' => ∃ a' m c', e = .returned (.agg #[.int .i64 (Ch.Rec.fault ⟨kd, tx, ky, hd, ol, hs, nw⟩), .slice a' m c']) ∧ m ≤ 11 ∧ w'.ownsRow w.heap.size 5 1 (.slice a' m c') m (bts (Ch.Rec.res ⟨kd, tx, ky, hd, ol, hs, nw⟩)) ∧ Below w.heap.size w w' := by
  by_cases h0 : Ch.Rec.fault ⟨kd, tx, ky, hd, ol, hs, nw⟩ = 0
  · refine (implPackRec_ok kd tx ky hd ol hs nw w h0).mono ?_
    rintro e w' ⟨g, cp, rfl, own, b⟩
    refine ⟨_, _, _, by rw [h0], (Ch.Rec.len_bd _).2, ?_, b⟩
    unfold Ch.Rec.res
    rw [if_pos h0]
    exact own
  · refine (implPackRec_no kd tx ky hd ol hs nw w _ rfl (by simpa using h0)).mono ?_
    rintro e w' ⟨rfl, b⟩
    refine ⟨_, _, _, rfl, by omega, ?_, b⟩
    unfold Ch.Rec.res
    rw [if_neg h0]
    exact World.ownsRow_nil _ _ _ _

theorem specPackRec_any (kd tx ky : Int) (hd : Bool) (ol : Int) (hs : Bool) (nw : Int) (w : World) :
    Calls Try.prog 26 #[.agg #[.int .i64 kd, .int .i64 tx, .int .i64 ky, .bool hd, .int .i64 ol, .bool hs, .int .i64 nw]] w fun e w' => ∃ a' m c', e = .returned (.agg #[.int .i64 (Ch.Rec.fault ⟨kd, tx, ky, hd, ol, hs, nw⟩), .slice a' m c']) ∧ m ≤ 11 ∧ w'.ownsRow w.heap.size 5 1 (.slice a' m c') m (bts (Ch.Rec.res ⟨kd, tx, ky, hd, ol, hs, nw⟩)) ∧ Below w.heap.size w w' := by
  by_cases h0 : Ch.Rec.fault ⟨kd, tx, ky, hd, ol, hs, nw⟩ = 0
  · refine (specPackRec_ok kd tx ky hd ol hs nw w h0).mono ?_
    rintro e w' ⟨g, cp, rfl, own, b⟩
    refine ⟨_, _, _, by rw [h0], (Ch.Rec.len_bd _).2, ?_, b⟩
    unfold Ch.Rec.res
    rw [if_pos h0]
    exact own
  · refine (specPackRec_no kd tx ky hd ol hs nw w _ rfl (by simpa using h0)).mono ?_
    rintro e w' ⟨rfl, b⟩
    refine ⟨_, _, _, rfl, by omega, ?_, b⟩
    unfold Ch.Rec.res
    rw [if_neg h0]
    exact World.ownsRow_nil _ _ _ _

theorem box7 {w w1 : World} {t : TypeId} {c0 c1 c2 c3 c4 c5 c6 : Value} (b : Below (w.alloc (.cells #[c0, c1, c2, c3, c4, c5, c6] t)).heap.size (w.alloc (.cells #[c0, c1, c2, c3, c4, c5, c6] t)) w1) :
    w1.cell? ⟨w.heap.size, 0, none⟩ = some c0 ∧ w1.cell? ⟨w.heap.size, 1, none⟩ = some c1 ∧ w1.cell? ⟨w.heap.size, 2, none⟩ = some c2 ∧ w1.cell? ⟨w.heap.size, 3, none⟩ = some c3 ∧ w1.cell? ⟨w.heap.size, 4, none⟩ = some c4 ∧ w1.cell? ⟨w.heap.size, 5, none⟩ = some c5 ∧ w1.cell? ⟨w.heap.size, 6, none⟩ = some c6 :=
  ⟨box_cell b 0, box_cell b 1, box_cell b 2, box_cell b 3, box_cell b 4, box_cell b 5, box_cell b 6⟩

set_option maxHeartbeats 1000000 in
theorem lawPackRec_any (kd tx ky : Int) (hd : Bool) (ol : Int) (hs : Bool) (nw : Int) (w : World) :
    Calls Try.prog 6 #[.agg #[.int .i64 kd, .int .i64 tx, .int .i64 ky, .bool hd, .int .i64 ol, .bool hs, .int .i64 nw]] w fun e w' => e = .returned (.bool true) ∧ Below w.heap.size w w' := by
  go_enter Try.func6, Try.ntmps6
  go_wp2_with fail
  refine (toRec_any _ _ _ _ _ _ _ _).mono ?_
  rintro e w1 ⟨rfl, b1⟩
  go_wp2_with fail
  refine (specPackRec_any _ _ _ _ _ _ _ _).mono ?_
  rintro e w2 ⟨a2, m2, c2, rfl, hm2, o2, b2⟩
  have b2' := b1.trans (b2.mono b1.size)
  have L2 := owns_lt o2
  have z1 := b1.size
  have z2 := b2.size
  obtain ⟨r0, r1, r2, r3, r4, r5, r6⟩ := box7 b2'
  have lt2 := lt_of_cell r0
  clear b1 b2
  generalize hfc : Ch.Rec.fault ⟨kd, tx, ky, hd, ol, hs, nw⟩ = fc at *
  go_wp2_with fail
  refine (toRec_any _ _ _ _ _ _ _ _).mono ?_
  rintro e w3 ⟨rfl, b3⟩
  have b3w := below_box b3
  have b3' := b2'.trans (b3w.mono b2'.size)
  have o2 := owns_below o2 b3w
  have x0 := box_cell b3 0
  have x1 := box_cell b3 1
  simp at x0 x1
  have z3 := b3.size
  simp at z3
  clear b3 b3w b2' r0 r1 r2 r3 r4 r5 r6
  go_wp2_with fail
  refine (implPackRec_any _ _ _ _ _ _ _ _).mono ?_
  rw [hfc]
  rintro e w4 ⟨a4, m4, c4, rfl, hm4, o4, b4⟩
  have L4 := owns_lt o4
  have b4' := b3'.trans (b4.mono b3'.size)
  have o2 := owns_below o2 b4
  have x0 := keep_cell b4 x0
  have x1 := keep_cell b4 x1
  have z4 := b4.size
  have lt4 : w2.heap.size < w4.heap.size := by omega
  have HM : m4 = m2 := by have e2 := o2.1; have e4 := o4.1; omega
  subst HM
  have hq : ((1 + (m4 : Int)) != 1 + m4) = false := by simp
  clear b3' b4
  go_wp2_with fail
  refine (eqBytesResult_same _ a4 a2 m4 c4 c2 (Ch.Rec.res ⟨kd, tx, ky, hd, ol, hs, nw⟩) _ (by simpa using owns_cells (o4.alloc _)) (by simpa using owns_cells (o2.alloc _)) (by omega)).mono ?_
  rintro e w5 ⟨rfl, b5⟩
  have y0 := box_cell b5 0
  have y1 := box_cell b5 1
  simp at y0 y1
  have b5 := below_box b5
  have b5' := b4'.trans (b5.mono b4'.size)
  have o2 := owns_below o2 b5
  have o4 := owns_below o4 b5
  have x0 := keep_cell b5 x0
  have x1 := keep_cell b5 x1
  clear b4' b5
  go_wp2_with fail
  refine (markBytesResult_any _ _ a4 m4 c4 (Ch.Rec.res ⟨kd, tx, ky, hd, ol, hs, nw⟩) _ o4 (by omega)).mono ?_
  rintro e w10 ⟨rfl, o5, gr10⟩
  have b10' := b5'.grown gr10 b5'.size (by intro k hk; have := L4 k hk; simp; simp at z1; omega)
  have o2 := owns_grown o2 gr10 (fun g hg hk => by have := L2 g hg; have := L4 g hk; omega)
  have x0 := grown_cell gr10 x0 (fun hk => by have := L4 _ hk; omega)
  have x1 := grown_cell gr10 x1 (fun hk => by have := L4 _ hk; omega)
  have y0 := grown_cell gr10 y0 (fun hk => by have := L4 _ hk; omega)
  have y1 := grown_cell gr10 y1 (fun hk => by have := L4 _ hk; omega)
  clear gr10 o4 b5'
  go_wp2_with fail
  refine (heldBytesResult_any _ a4 m4 c4 _ (by simpa using owns_cells o5) (by omega)).mono ?_
  rintro e w11 ⟨rfl, b11⟩
  have b11' := b10'.trans (b11.mono b10'.size)
  have o2 := owns_below o2 b11
  have o5 := owns_below o5 b11
  have x0 := keep_cell b11 x0
  have x1 := keep_cell b11 x1
  have y0 := keep_cell b11 y0
  have y1 := keep_cell b11 y1
  obtain ⟨r0, r1, r2, r3, r4, r5, r6⟩ := box7 b11'
  clear b10' b11
  go_wp2_with fail
  refine (toRec_any _ _ _ _ _ _ _ _).mono ?_
  rintro e w12 ⟨rfl, b12⟩
  have b12' := b11'.trans (b12.mono b11'.size)
  have o2 := owns_below o2 b12
  have o5 := owns_below o5 b12
  have x0 := keep_cell b12 x0
  have x1 := keep_cell b12 x1
  have y0 := keep_cell b12 y0
  have y1 := keep_cell b12 y1
  clear b11' b12 r0 r1 r2 r3 r4 r5 r6
  go_wp2_with fail
  refine (implPackRec_any _ _ _ _ _ _ _ _).mono ?_
  rw [hfc]
  rintro e w13 ⟨a13, m13, c13, rfl, hm13, o13, b13⟩
  have b13' := b12'.trans (b13.mono b12'.size)
  have o2 := owns_below o2 b13
  have o5 := owns_below o5 b13
  have x0 := keep_cell b13 x0
  have x1 := keep_cell b13 x1
  have y0 := keep_cell b13 y0
  have y1 := keep_cell b13 y1
  have HM : m13 = m4 := by have e2 := o2.1; have e4 := o13.1; omega
  subst HM
  have l1 := lt_of_cell x0
  have l2 := lt_of_cell y0
  clear b12' b13
  go_wp2_with fail
  refine (eqBytesResult_same _ a13 a2 m13 c13 c2 (Ch.Rec.res ⟨kd, tx, ky, hd, ol, hs, nw⟩) _ (by simpa using owns_cells (o13.alloc _)) (by simpa using owns_cells (o2.alloc _)) (by omega)).mono ?_
  rintro e w14 ⟨rfl, b14⟩
  have b14 := below_box b14
  have b14' := b13'.trans (b14.mono b13'.size)
  have o5 := owns_below o5 b14
  have y0 := keep_cell b14 y0
  have y1 := keep_cell b14 y1
  clear b13' b14
  go_wp2_with fail
  refine (heldBytesResult_any _ a4 m13 c4 _ (by simpa using owns_cells o5) (by omega)).mono ?_
  rintro e w15 ⟨rfl, b15⟩
  go_wp2
  go_ret
  exact ⟨rfl, below_box (b14'.trans (b15.mono b14'.size))⟩
end Go.Proofs.Ytiommhbfbigjmaa
