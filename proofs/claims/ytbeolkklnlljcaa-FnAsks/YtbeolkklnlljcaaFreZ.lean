/- Several texts in one: LkMk, FreL. -/
import Derived.Test.YtbeolkklnlljcaaLkFr


/- Results of locks: compared, marked, held. -/
namespace Go.Proofs.Ytbeolkklnlljcaa
open Go.RowKit

theorem moved_in {v : Value} {vs : List (Value × Value)} {w w' : World} {row : Option Nat} (gr : w.grownBy w' row) (hr : ∀ g, row = some g → g ∈ v.ownBlock.toList ++ vs.flatMap blks) : Moved v vs vs w w' :=
  ⟨gr.os, gr.tape, gr.output, gr.size, fun g hg hn => gr.block g hg fun e => hn (hr g e.symm), fun _ h => .inl h⟩

set_option maxHeartbeats 1000000 in
theorem markLocks_K (s : Int) (T : TypeId) (B : Nat) (a : Option Addr) (n cap : Nat) (ls : List Ch.Lock) (vs : List (Value × Value)) (w : World) (h : OwnK T w B (.slice a n cap) n ls vs) (hs0 : 0 < s) (hs1 : s ≤ 1073741824) (hs : Ch.lkSize ls ≤ 1048579) :
    Calls Try.prog 43 #[.slice a n cap, .int .i64 s] w fun e w' => e = .returned (.int .i64 (s + (Ch.pos ls n : Int))) ∧ OwnK T w' B (.slice a n cap) n (lkMarks s ls) vs ∧ Moved (.slice a n cap) vs vs w w' := by
  have HL : Hid (ls.length = n) := h.len
  have hv0 := fun g hg => owns_lt h.row g hg
  have hn : n ≤ 1048579 := by unfold Ch.lkSize at hs; have := HL.out; omega
  go_enter Try.func43, Try.ntmps43
  go_wp2
  go_loopw [1, 5] (fun q i wr => ∃ k : Nat, k ≤ n ∧ i = .int .i64 k ∧ q = .int .i64 (s + (Ch.pos ls k : Int)) ∧ OwnK T wr B (.slice a n cap) n (lkMarked s ls k) vs ∧ Moved (.slice a n cap) vs vs w wr) (fun _ i _ => n - (intOf i).toNat)
  case atStart => exact ⟨0, Nat.zero_le _, rfl, by simp [Ch.pos, Ch.lkSum], by simpa [lkMarked] using h, Moved.refl _ _ _⟩
  case round =>
    obtain ⟨k, hk, rfl, rfl, own, hW⟩ := hrel
    by_cases hlt : k < n
    · have hkl : k < ls.length := by have := HL.out; omega
      have HS := hid (Ch.lk_one hs k)
      have HB := hid (Ch.pos_next ls k hkl)
      have hbs := Ch.pos_small hs k (by omega)
      have HM := hid (lkMarked_set s ls k hkl)
      have HK : Hid (lkMark s ls k = ⟨s + (Ch.pos ls k : Int), hmarks (s + (Ch.pos ls k : Int) + 1) (Ch.lkAt ls k).hs.length, hmarks (s + (Ch.pos ls k : Int) + 1 + 2 * ((Ch.lkAt ls k).hs.length : Int)) (Ch.lkAt ls k).qs.length⟩) := rfl
      have HAt := hid (lkMarked_at s ls k)
      obtain ⟨p, hp⟩ := own.got hlt
      obtain ⟨o, rfl⟩ := own.rowAt hlt
      have hrow := own.row
      have hat := lcells_at (ls := lkMarked s ls k) (by rw [own.len, own.vlen]) hp
      rw [HAt.out] at hat
      have c0 := (hrow.cellAt (k * 3) (by omega)).trans hat.1
      have c1 := (hrow.cellAt (k * 3 + 1) (by omega)).trans hat.2.1
      have c2 := (hrow.cellAt (k * 3 + 2) (by omega)).trans hat.2.2
      have f0 := hrow.frozenAt (k * 3)
      obtain ⟨ownR, grR⟩ := own.res hlt (s + (Ch.pos ls k : Int))
      have ob := hv0 o rfl
      have hW1 := hW.trans (moved_in grR (fun g hg => by cases hg; simp [Value.ownBlock]))
      have o1 := ownR.hs k p hp
      have o2 := ownR.qs k p hp
      rw [lk_set _ k k _ (by rw [own.len]; exact hlt), if_pos rfl, HAt.out] at o1 o2
      have ne12 := fun g hg => apart_one own.apart hp (g := g) hg
      have neR : o ∉ blks p := apart_row own.apart hp rfl
      have hpb : ∀ g, g ∈ blks p → g ∈ (Value.slice (some ⟨o, 0, none⟩) n cap).ownBlock.toList ++ vs.flatMap blks := fun g hg => List.mem_append.2 (.inr (List.mem_flatMap.2 ⟨p, List.mem_of_getElem? hp, hg⟩))
      clear hat hrow
      obtain ⟨x, y⟩ := p
      obtain ⟨ah, ch, ex⟩ := owns_shape o1
      obtain ⟨aq, cq, ey⟩ := owns_shape o2
      simp only at ex ey o1 o2 c1 c2 ne12 hpb
      subst ex ey
      rw [HAt.out] at ownR
      have hol := lt_of_cell c0
      have hne1 : ∀ g, (Value.slice ah (Ch.lkAt ls k).hs.length ch).ownBlock = some g → g ≠ o := fun g hg e => neR (by subst e; simp [blks, hg])
      have hne2 : ∀ g, (Value.slice aq (Ch.lkAt ls k).qs.length cq).ownBlock = some g → g ≠ o := fun g hg e => neR (by subst e; simp [blks, hg])
      generalize Ch.lkAt ls k = l at *
      generalize Ch.pos ls k = q at *
      obtain ⟨lr, lhs, lqs⟩ := l
      simp only at HS HB HK o1 o2 c0 c1 c2 ownR hne1 hne2
      obtain ⟨nh, HNH⟩ : ∃ nh, Hid (lhs.length = nh) := ⟨_, rfl⟩
      obtain ⟨nq, HNQ⟩ : ∃ nq, Hid (lqs.length = nq) := ⟨_, rfl⟩
      rw [HNH.out] at o1 c1 ne12 HB HK HS hne1 hp hpb
      rw [HNQ.out] at o2 c2 ne12 HB HK HS hne2 hp hpb
      have hnh : nh ≤ 1048579 := HS.out.1
      have hnq : nq ≤ 1048579 := HS.out.2
      go_wp2_with fail
      refine (markHolds_any (s + (q : Int) + 1) B nh ah ch lhs _ (by omega) (by omega) o1 hnh).mono ?_
      rintro e w1 ⟨rfl, own1, gr1⟩
      have o2 := owns_grown o2 gr1 (fun g hg e => ne12 g e hg)
      have ownA := ownR.turn hp gr1 (fun g hg => by simp [blks, hg]) ⟨s + (q : Int), hmarks (s + (q : Int) + 1) nh, lqs⟩ (by rw [lk_set _ k k _ (by rw [own.len]; exact hlt), if_pos rfl]) (by rw [hmarks_len]; exact own1) (by simp only; rw [HNQ.out]; exact o2)
      have c2 := (ownA.row.cellAt (k * 3 + 2) (by omega)).trans (lcells_at (by rw [ownA.len, ownA.vlen]) hp).2.2
      simp only at c2
      have hol := lt_of_cell c2
      have hx1 := fun g hg => hpb g (show g ∈ blks (Value.slice ah nh ch, Value.slice aq nq cq) by simp only [blks, List.mem_append, Option.mem_toList]; exact .inl hg)
      have hx2 := fun g hg => hpb g (show g ∈ blks (Value.slice ah nh ch, Value.slice aq nq cq) by simp only [blks, List.mem_append, Option.mem_toList]; exact .inr hg)
      have hW2 := hW1.trans (moved_in gr1 (fun g hg => hx1 g hg))
      clear c0 c1 f0 grR hW hW1 ownR
      go_wp2_with fail
      refine (markHolds_any (s + (q : Int) + 1 + 2 * (nh : Int)) B nq aq cq lqs _ (by omega) (by omega) o2 hnq).mono ?_
      rintro e w2 ⟨rfl, own2, gr2⟩
      have own1 := owns_grown own1 gr2 (fun g hg e => ne12 g hg e)
      have ownB := ownA.turn hp gr2 (fun g hg => by simp [blks, hg]) ⟨s + (q : Int), hmarks (s + (q : Int) + 1) nh, hmarks (s + (q : Int) + 1 + 2 * (nh : Int)) nq⟩ (by rw [lk_set _ k k _ (by simp [own.len]; exact hlt), if_pos rfl]) (by rw [hmarks_len]; exact own1) (by rw [hmarks_len]; exact own2)
      go_wp2
      go_roundw
      case rel =>
        refine ⟨k + 1, by omega, by go_num, by rw [HB.out]; go_num, ?_, hW2.trans (moved_in gr2 (fun g hg => hx2 g hg))⟩
        rw [← HM.out, HK.out]
        simpa [List.set_set] using ownB
      case measure => simp [intOf]; omega
    · obtain rfl : k = n := by omega
      go_wp2
      go_ret
      refine ⟨rfl, ?_, hW⟩
      have e := HL.out
      subst e
      simpa [lkMarked, lkMarks] using own


/-- A result of one's own that is marked. -/
def MkRes (w : World) (B : Nat) (a1 : Option Addr) (m1 c1 : Nat) (a2 : Option Addr) (m2 c2 : Nat) (ls : List Ch.Lock) (vs : List (Value × Value)) : Prop :=
  w.ownsRow B 2 1 (.slice a1 m1 c1) m1 (icells (imarks 1 m1)) ∧ OwnK 104 w B (.slice a2 m2 c2) m2 (lkMarks (1 + (m1 : Int)) ls) vs ∧ ls.length = m2
theorem lkMarks_size (s : Int) (ls : List Ch.Lock) : Ch.lkSize (lkMarks s ls) = Ch.lkSize ls := by
  unfold Ch.lkSize Ch.lkSum
  have e : (lkMarks s ls).map (fun l => l.hs.length + l.qs.length) = ls.map (fun l => l.hs.length + l.qs.length) := by
    apply List.ext_getElem?
    intro i
    by_cases hi : i < ls.length
    · simp [lkMarks, lkMark, hi, hmarks_len, Ch.lkAt, List.getD]
    · simp [lkMarks, hi]
  rw [e]
  simp [lkMarks]
theorem MkRes.below {w w' : World} {B : Nat} {a1 : Option Addr} {m1 c1 : Nat} {a2 : Option Addr} {m2 c2 : Nat} {ls : List Ch.Lock} {vs : List (Value × Value)} (h : MkRes w B a1 m1 c1 a2 m2 c2 ls vs) (hb : Below w.heap.size w w') : MkRes w' B a1 m1 c1 a2 m2 c2 ls vs := ⟨owns_below h.1 hb, h.2.1.below hb, h.2.2⟩
theorem LkRes.below {w w' : World} {B : Nat} {a1 : Option Addr} {m1 c1 : Nat} {zs : List Int} {a2 : Option Addr} {m2 c2 : Nat} {ls : List Ch.Lock} {vs : List (Value × Value)} (h : LkRes w B a1 m1 c1 zs a2 m2 c2 ls vs) (hb : Below w.heap.size w w') : LkRes w' B a1 m1 c1 zs a2 m2 c2 ls vs := ⟨owns_below h.1 hb, h.2.1.below hb, h.2.2⟩

end Go.Proofs.Ytbeolkklnlljcaa


/- FreeLocks of the model; the law FnExactFreeLocks. -/
namespace Go.Proofs.Ytbeolkklnlljcaa
open Go.RowKit

theorem LkIn.mono {lo hi lo' hi' : Nat} {w : World} {a : Option Addr} {n : Nat} {ls : List Ch.Lock} (h : LkIn lo hi w a n ls) (h1 : lo' ≤ lo) (h2 : hi ≤ hi') : LkIn lo' hi' w a n ls := by
  refine ⟨h.1, fun h0 => ?_⟩
  obtain ⟨b, off, ha, k1, k2, hi'⟩ := h.2 h0
  refine ⟨b, off, ha, by omega, by omega, fun i hlt => ?_⟩
  obtain ⟨ah, nh, ch, aq, nq, cq, h3, h4, h5⟩ := hi' i hlt
  exact ⟨ah, nh, ch, aq, nq, cq, h3, fun g o h0 e => by have := h4 g o h0 e; omega, fun g o h0 e => by have := h5 g o h0 e; omega⟩
theorem LkIn.setAt {lo hi b i : Nat} {w : World} {a : Option Addr} {n : Nat} {ls : List Ch.Lock} (h : LkIn lo hi w a n ls) (hb : b < lo) (u : Value) : LkIn lo hi (w.setCell ⟨b, i, none⟩ u) a n ls :=
  h.within (within_grown (lo := b) (hi := b + 1) (grown_set w b i u) (Nat.le_refl _) (by omega)) (.inr (by omega))
theorem LkIn.nil (lo hi : Nat) (w : World) : LkIn lo hi w none 0 [] := ⟨rfl, fun h => absurd h (by simp)⟩

set_option linter.unusedSimpArgs false in
set_option maxRecDepth 20000 in
set_option maxHeartbeats 4000000 in
theorem specFree_any (a : Option Addr) (n cap : Nat) (t : Int) (ls : List Ch.Lock) (w : World) (h : LkAt w a n ls) (hs : Ch.lkSize ls ≤ 1048576) :
    Calls Try.prog 23 #[.slice a n cap, .int .i64 t] w fun e w' => ∃ a1 m1 c1 a2 m2 c2, e = .returned (.agg #[.int .i64 (Ch.freeR ls t).1, .bool false, .slice a1 m1 c1, .slice a2 m2 c2]) ∧ w'.ownsRow w.heap.size 2 1 (.slice a1 m1 c1) m1 (icells (Ch.freeR ls t).2.1) ∧ LkIn w.heap.size w'.heap.size w' a2 m2 (Ch.freeR ls t).2.2 ∧ Below w.heap.size w w' := by
  have IA := fun W hW => l6Asked_any a n cap t 0 ls W hW hs
  simp only [Ch.askedR_zero] at IA
  have kA : ∀ o, Below w.heap.size w (w.alloc o) := fun o => (Below.refl _ _).alloc (Nat.le_refl _) o
  have HL := h.len
  obtain ⟨c, HC⟩ : ∃ c, Hid (Ch.askedT ls t = c) := ⟨_, rfl⟩
  rw [HC.out] at IA
  by_cases h0 : c = 0
  · subst h0
    rw [Ch.freeR_ok HC.out]
    have HG := hid (Ch.askedT_good HC.out).1
    clear HC
    go_enter Try.func23, Try.ntmps23
    go_wp2_with fail
    refine (IA _ (h.below (kA _))).mono ?_
    rintro e w1 ⟨rfl, b1⟩
    have hR := heap_below b1 (heap_alloc_new w _)
    have b1 := below_box b1
    have lz := (Array.getElem?_eq_some_iff.1 hR).1
    go_wp2_with fail
    refine (l6Free_any a n cap t ls _ (h.below b1) (by have := Ch.good_few HG.out; have := HL.out; omega) (fun i hi => by have := Ch.good_at HG.out (show i < ls.length by have := HL.out; omega); exact ⟨this.1, this.2.1, this.2.2.1, this.2.2.2.1⟩)).mono ?_
    rintro e w2 ⟨a1, m1, c1, a2, m2, c2, rfl, oi, hm1, hk, b2⟩
    have hR2 := heap_below b2 hR
    obtain ⟨⟨x0, x1, x2, x3⟩, f0, f1, f2, f3⟩ := row4 hR2
    have lr := lt_of_cell x0
    have BW := b1.trans (b2.mono b1.size)
    have hwl : w.heap.size < w1.heap.size := lz
    go_wp2
    refine bodyPost_ret (v := .agg #[.int .i64 0, .bool false, .slice a1 m1 c1, .slice a2 m2 c2]) (by simp [results, Try.results23, go_sem, x0, x1, x2, x3]) rfl ⟨a1, m1, c1, a2, m2, c2, rfl, ?_, ?_, (BW.setCell (p := ⟨w.heap.size, 0, none⟩) (Nat.le_refl _) _ |>.setCell (p := ⟨w.heap.size, 1, none⟩) (Nat.le_refl _) _ |>.setCell (p := ⟨w.heap.size, 2, none⟩) (Nat.le_refl _) _ |>.setCell (p := ⟨w.heap.size, 3, none⟩) (Nat.le_refl _) _)⟩
    · refine owns_base (base := w1.heap.size) (ownsRow_setCell_below (ownsRow_setCell_below (ownsRow_setCell_below (ownsRow_setCell_below oi ?_ _) ?_ _) ?_ _) ?_ _) (by omega)
      all_goals exact hwl
    · exact ((((hk.setAt hwl _).setAt hwl _).setAt hwl _).setAt hwl _).mono (by omega) (by simp)
  · rw [Ch.freeR_bad HC.out h0]
    clear HC
    go_enter Try.func23, Try.ntmps23
    go_wp2_with fail
    refine (IA _ (h.below (kA _))).mono ?_
    rintro e w1 ⟨rfl, b1⟩
    have hR := heap_below b1 (heap_alloc_new w _)
    have BW := below_box b1
    have lz := (Array.getElem?_eq_some_iff.1 hR).1
    obtain ⟨⟨x0, x1, x2, x3⟩, f0, f1, f2, f3⟩ := row4 hR
    go_wp2
    exact bodyPost_ret (v := .agg #[.int .i64 c, .bool false, .slice none 0 0, .slice none 0 0]) (by simp [results, Try.results23, go_sem, x0, x1, x2, x3]) rfl ⟨none, 0, 0, none, 0, 0, rfl, World.ownsRow_nil _ _ _ _, LkIn.nil _ _ _, (BW.setCell (p := ⟨w.heap.size, 0, none⟩) (Nat.le_refl _) _ |>.setCell (p := ⟨w.heap.size, 1, none⟩) (Nat.le_refl _) _ |>.setCell (p := ⟨w.heap.size, 2, none⟩) (Nat.le_refl _) _ |>.setCell (p := ⟨w.heap.size, 3, none⟩) (Nat.le_refl _) _)⟩

end Go.Proofs.Ytbeolkklnlljcaa

