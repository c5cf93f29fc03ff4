/- Results of locks: compared, marked, held. -/
import Derived.Test.YteblnejpohjjmaaLkFr
namespace Go.Proofs.Yteblnejpohjjmaa
open Go.RowKit

theorem moved_in {v : Value} {vs : List (Value × Value)} {w w' : World} {row : Option Nat} (gr : w.grownBy w' row) (hr : ∀ g, row = some g → g ∈ v.ownBlock.toList ++ vs.flatMap blks) : Moved v vs vs w w' :=
  ⟨gr.os, gr.tape, gr.output, gr.size, fun g hg hn => gr.block g hg fun e => hn (hr g e.symm), fun _ h => .inl h⟩

set_option maxHeartbeats 1000000 in
theorem markLocks_K (s : Int) (T : TypeId) (B : Nat) (a : Option Addr) (n cap : Nat) (ls : List Ch.Lock) (vs : List (Value × Value)) (w : World) (h : OwnK T w B (.slice a n cap) n ls vs) (hs0 : 0 < s) (hs1 : s ≤ 1073741824) (hs : Ch.lkSize ls ≤ 1048579) :
    Calls Try.prog 29 #[.slice a n cap, .int .i64 s] w fun e w' => e = .returned (.int .i64 (s + (Ch.pos ls n : Int))) ∧ OwnK T w' B (.slice a n cap) n (lkMarks s ls) vs ∧ Moved (.slice a n cap) vs vs w w' := by
  have HL : Hid (ls.length = n) := h.len
  have hv0 := fun g hg => owns_lt h.row g hg
  have hn : n ≤ 1048579 := by unfold Ch.lkSize at hs; have := HL.out; omega
  go_enter Try.func29, Try.ntmps29
  go_wp2
  go_loopw [1, 5] (fun q i wr => ∃ k : Nat, k ≤ n ∧ i = .int .i64 k ∧ q = .int .i64 (s + (Ch.pos ls k : Int)) ∧ OwnK T wr B (.slice a n cap) n (lkMarked s ls k) vs ∧ Moved (.slice a n cap) vs vs w wr) (fun _ i _ => n - (intOf i).toNat)
  case atStart => exact ⟨0, Nat.zero_le _, rfl, by simp [Ch.pos, Ch.lkSum], by simpa [lkMarked] using h, Moved.refl _ _ _⟩
  case round =>
    obtain ⟨k, hk, rfl, rfl, own, hW⟩ := hrel
    by_cases hlt : k < n
    · have hkl : k < ls.length := by have := HL.out; omega
      have HS := hid (Ch.lk_one hs k)
      have HB := hid (Ch.pos_next ls k hkl)
      have hbs := Ch.pos_small hs k (by omega)
      have HM := hid (lkMarked_set s ls k hkl)
      have HK : Hid (lkMark s ls k = ⟨s + (Ch.pos ls k : Int), hmarks (s + (Ch.pos ls k : Int) + 1) (Ch.lkAt ls k).hs.length, hmarks (s + (Ch.pos ls k : Int) + 1 + 2 * ((Ch.lkAt ls k).hs.length : Int)) (Ch.lkAt ls k).qs.length⟩) := rfl
      have HAt := hid (lkMarked_at s ls k)
      obtain ⟨p, hp⟩ := own.got hlt
      obtain ⟨o, rfl⟩ := own.rowAt hlt
      have hrow := own.row
      have hat := lcells_at (ls := lkMarked s ls k) (by rw [own.len, own.vlen]) hp
      rw [HAt.out] at hat
      have c0 := (hrow.cellAt (k * 3) (by omega)).trans hat.1
      have c1 := (hrow.cellAt (k * 3 + 1) (by omega)).trans hat.2.1
      have c2 := (hrow.cellAt (k * 3 + 2) (by omega)).trans hat.2.2
      have f0 := hrow.frozenAt (k * 3)
      obtain ⟨ownR, grR⟩ := own.res hlt (s + (Ch.pos ls k : Int))
      have ob := hv0 o rfl
      have hW1 := hW.trans (moved_in grR (fun g hg => by cases hg; simp [Value.ownBlock]))
      have o1 := ownR.hs k p hp
      have o2 := ownR.qs k p hp
      rw [lk_set _ k k _ (by rw [own.len]; exact hlt), if_pos rfl, HAt.out] at o1 o2
      have ne12 := fun g hg => apart_one own.apart hp (g := g) hg
      have neR : o ∉ blks p := apart_row own.apart hp rfl
      have hpb : ∀ g, g ∈ blks p → g ∈ (Value.slice (some ⟨o, 0, none⟩) n cap).ownBlock.toList ++ vs.flatMap blks := fun g hg => List.mem_append.2 (.inr (List.mem_flatMap.2 ⟨p, List.mem_of_getElem? hp, hg⟩))
      clear hat hrow
      obtain ⟨x, y⟩ := p
      obtain ⟨ah, ch, ex⟩ := owns_shape o1
      obtain ⟨aq, cq, ey⟩ := owns_shape o2
      simp only at ex ey o1 o2 c1 c2 ne12 hpb
      subst ex ey
      rw [HAt.out] at ownR
      have hol := lt_of_cell c0
      have hne1 : ∀ g, (Value.slice ah (Ch.lkAt ls k).hs.length ch).ownBlock = some g → g ≠ o := fun g hg e => neR (by subst e; simp [blks, hg])
      have hne2 : ∀ g, (Value.slice aq (Ch.lkAt ls k).qs.length cq).ownBlock = some g → g ≠ o := fun g hg e => neR (by subst e; simp [blks, hg])
      generalize Ch.lkAt ls k = l at *
      generalize Ch.pos ls k = q at *
      obtain ⟨lr, lhs, lqs⟩ := l
      simp only at HS HB HK o1 o2 c0 c1 c2 ownR hne1 hne2
      obtain ⟨nh, HNH⟩ : ∃ nh, Hid (lhs.length = nh) := ⟨_, rfl⟩
      obtain ⟨nq, HNQ⟩ : ∃ nq, Hid (lqs.length = nq) := ⟨_, rfl⟩
      rw [HNH.out] at o1 c1 ne12 HB HK HS hne1 hp hpb
      rw [HNQ.out] at o2 c2 ne12 HB HK HS hne2 hp hpb
      have hnh : nh ≤ 1048579 := HS.out.1
      have hnq : nq ≤ 1048579 := HS.out.2
      go_wp2_with fail
      refine (markHolds_any (s + (q : Int) + 1) B nh ah ch lhs _ (by omega) (by omega) o1 hnh).mono ?_
      rintro e w1 ⟨rfl, own1, gr1⟩
      have o2 := owns_grown o2 gr1 (fun g hg e => ne12 g e hg)
      have ownA := ownR.turn hp gr1 (fun g hg => by simp [blks, hg]) ⟨s + (q : Int), hmarks (s + (q : Int) + 1) nh, lqs⟩ (by rw [lk_set _ k k _ (by rw [own.len]; exact hlt), if_pos rfl]) (by rw [hmarks_len]; exact own1) (by simp only; rw [HNQ.out]; exact o2)
      have c2 := (ownA.row.cellAt (k * 3 + 2) (by omega)).trans (lcells_at (by rw [ownA.len, ownA.vlen]) hp).2.2
      simp only at c2
      have hol := lt_of_cell c2
      have hx1 := fun g hg => hpb g (show g ∈ blks (Value.slice ah nh ch, Value.slice aq nq cq) by simp only [blks, List.mem_append, Option.mem_toList]; exact .inl hg)
      have hx2 := fun g hg => hpb g (show g ∈ blks (Value.slice ah nh ch, Value.slice aq nq cq) by simp only [blks, List.mem_append, Option.mem_toList]; exact .inr hg)
      have hW2 := hW1.trans (moved_in gr1 (fun g hg => hx1 g hg))
      clear c0 c1 f0 grR hW hW1 ownR
      go_wp2_with fail
      refine (markHolds_any (s + (q : Int) + 1 + 2 * (nh : Int)) B nq aq cq lqs _ (by omega) (by omega) o2 hnq).mono ?_
      rintro e w2 ⟨rfl, own2, gr2⟩
      have own1 := owns_grown own1 gr2 (fun g hg e => ne12 g hg e)
      have ownB := ownA.turn hp gr2 (fun g hg => by simp [blks, hg]) ⟨s + (q : Int), hmarks (s + (q : Int) + 1) nh, hmarks (s + (q : Int) + 1 + 2 * (nh : Int)) nq⟩ (by rw [lk_set _ k k _ (by simp [own.len]; exact hlt), if_pos rfl]) (by rw [hmarks_len]; exact own1) (by rw [hmarks_len]; exact own2)
      go_wp2
      go_roundw
      case rel =>
        refine ⟨k + 1, by omega, by go_num, by rw [HB.out]; go_num, ?_, hW2.trans (moved_in gr2 (fun g hg => hx2 g hg))⟩
        rw [← HM.out, HK.out]
        simpa [List.set_set] using ownB
      case measure => simp [intOf]; omega
    · obtain rfl : k = n := by omega
      go_wp2
      go_ret
      refine ⟨rfl, ?_, hW⟩
      have e := HL.out
      subst e
      simpa [lkMarked, lkMarks] using own


set_option maxHeartbeats 1000000 in
theorem eqLockResult_same (c : Int) (gr : Bool) (a1 a1' : Option Addr) (m1 c1 c1' : Nat) (zs : List Int) (a2 a2' : Option Addr) (m2 c2 c2' : Nat) (ls : List Ch.Lock) (w : World) (h1 : CellsAt w a1 (m1 * 1) (icells zs)) (h1' : CellsAt w a1' (m1 * 1) (icells zs)) (h2 : LkAt w a2 m2 ls) (h2' : LkAt w a2' m2 ls) (hm : m1 ≤ 1048576) (hs : Ch.lkSize ls ≤ 1048576) :
    Calls Try.prog 28 #[.agg #[.int .i64 c, .bool gr, .slice a1 m1 c1, .slice a2 m2 c2], .agg #[.int .i64 c, .bool gr, .slice a1' m1 c1', .slice a2' m2 c2']] w fun e w' => e = .returned (.bool true) ∧ Below w.heap.size w w' := by
  have hcc : (c != c) = false := by simp
  have hgg : (gr != gr) = false := by simp
  have b0 : Below w.heap.size w ((w.alloc (.cells #[.int .i64 c, .bool gr, .slice a1 m1 c1, .slice a2 m2 c2] 29)).alloc (.cells #[.int .i64 c, .bool gr, .slice a1' m1 c1', .slice a2' m2 c2'] 29)) := ((Below.refl _ _).alloc (Nat.le_refl _) _).alloc (by simp) _
  go_enter Try.func28, Try.ntmps28
  go_wp2_with fail
  refine (eqInts_same a1 a1' m1 c1 c1' zs _ (h1.below b0) (h1'.below b0) (by omega)).mono ?_
  rintro e w1 ⟨rfl, b1⟩
  have b1' := b0.trans (b1.mono b0.size)
  obtain ⟨cA, fA⟩ := bcell b1
  have p3 := cA w.heap.size 3 (by simp; omega)
  have q3 := cA (w.heap.size + 1) 3 (by simp)
  clear cA fA
  simp [go_sem] at p3 q3
  go_wp2_with fail
  refine (eqLockS_same a2 a2' m2 c2 c2' ls _ (h2.below b1') (h2'.below b1') hs).mono ?_
  rintro e w2 ⟨rfl, b2⟩
  go_wp2
  go_ret
  exact ⟨rfl, b1'.trans (b2.mono b1'.size)⟩

/-- A result of one's own that is marked. -/
def MkRes (w : World) (B : Nat) (a1 : Option Addr) (m1 c1 : Nat) (a2 : Option Addr) (m2 c2 : Nat) (ls : List Ch.Lock) (vs : List (Value × Value)) : Prop :=
  w.ownsRow B 2 1 (.slice a1 m1 c1) m1 (icells (imarks 1 m1)) ∧ OwnK 83 w B (.slice a2 m2 c2) m2 (lkMarks (1 + (m1 : Int)) ls) vs ∧ ls.length = m2
theorem lkMarks_size (s : Int) (ls : List Ch.Lock) : Ch.lkSize (lkMarks s ls) = Ch.lkSize ls := by
  unfold Ch.lkSize Ch.lkSum
  have e : (lkMarks s ls).map (fun l => l.hs.length + l.qs.length) = ls.map (fun l => l.hs.length + l.qs.length) := by
    apply List.ext_getElem?
    intro i
    by_cases hi : i < ls.length
    · simp [lkMarks, lkMark, hi, hmarks_len, Ch.lkAt, List.getD]
    · simp [lkMarks, hi]
  rw [e]
  simp [lkMarks]
theorem MkRes.below {w w' : World} {B : Nat} {a1 : Option Addr} {m1 c1 : Nat} {a2 : Option Addr} {m2 c2 : Nat} {ls : List Ch.Lock} {vs : List (Value × Value)} (h : MkRes w B a1 m1 c1 a2 m2 c2 ls vs) (hb : Below w.heap.size w w') : MkRes w' B a1 m1 c1 a2 m2 c2 ls vs := ⟨owns_below h.1 hb, h.2.1.below hb, h.2.2⟩
theorem LkRes.below {w w' : World} {B : Nat} {a1 : Option Addr} {m1 c1 : Nat} {zs : List Int} {a2 : Option Addr} {m2 c2 : Nat} {ls : List Ch.Lock} {vs : List (Value × Value)} (h : LkRes w B a1 m1 c1 zs a2 m2 c2 ls vs) (hb : Below w.heap.size w w') : LkRes w' B a1 m1 c1 zs a2 m2 c2 ls vs := ⟨owns_below h.1 hb, h.2.1.below hb, h.2.2⟩

set_option maxHeartbeats 1000000 in
theorem markLockResult_any (c : Int) (gr : Bool) (B : Nat) (a1 : Option Addr) (m1 c1 : Nat) (zs : List Int) (a2 : Option Addr) (m2 c2 : Nat) (ls : List Ch.Lock) (vs : List (Value × Value)) (H : Nat) (w : World) (h : LkRes w B a1 m1 c1 zs a2 m2 c2 ls vs) (hH1 : ∀ g, (Value.slice a1 m1 c1).ownBlock = some g → g < H) (hH2 : ∀ g, g ∈ (Value.slice a2 m2 c2).ownBlock.toList ++ vs.flatMap blks → g < H) :
    Calls Try.prog 30 #[.agg #[.int .i64 c, .bool gr, .slice a1 m1 c1, .slice a2 m2 c2], .int .i64 1] w fun e w' => e = .returned (.int .i64 (1 + (m1 : Int) + (Ch.pos ls m2 : Int))) ∧ MkRes w' B a1 m1 c1 a2 m2 c2 ls vs ∧ Within B H w w' := by
  have hm := h.2.2.2.1
  have hs := h.2.2.2.2
  have kA : ∀ o, Below w.heap.size w (w.alloc o) := fun o => (Below.refl _ _).alloc (Nat.le_refl _) o
  go_enter Try.func30, Try.ntmps30
  go_wp2_with fail
  refine (markInts_any 1 B m1 a1 c1 zs _ (by decide) (by decide) (h.1.alloc _) (by omega)).mono ?_
  rintro e w1 ⟨rfl, own1, gr1⟩
  have hK := (h.2.1.below (kA _)).other gr1 h.2.2.1
  have p3 : w1.cell? ⟨w.heap.size, 3, none⟩ = some (.slice a2 m2 c2) := grown_cell gr1 (by simp [go_sem]) (fun e => by have := (owns_lt h.1 _ e).2; omega)
  have l3 := lt_of_cell p3
  go_wp2_with fail
  refine (markLocks_K (1 + (m1 : Int)) _ B a2 m2 c2 ls vs _ hK (by omega) (by omega) (by omega)).mono ?_
  rintro e w2 ⟨rfl, own2, mv⟩
  have ⟨own1', _⟩ := mv.owns own1 h.2.2.1
  go_wp2
  go_ret
  refine ⟨rfl, ⟨own1', own2, h.2.1.len⟩, mv.os.trans (gr1.os.trans rfl), mv.tape.trans (gr1.tape.trans rfl), mv.output.trans (gr1.output.trans rfl), Nat.le_trans (Nat.le_trans (kA _).size gr1.size) mv.size, fun g hg hn => ?_⟩
  have hgo : ∀ x, x ∈ (Value.slice a2 m2 c2).ownBlock.toList ++ vs.flatMap blks → B ≤ x ∧ x < H := by
    intro x hx
    refine ⟨?_, hH2 x hx⟩
    rw [List.mem_append] at hx
    rcases hx with h1 | h1
    · exact (owns_lt h.2.1.row x (by simpa using h1)).1
    · obtain ⟨i, q, hq, hgq⟩ := flat_mem h1
      exact (h.2.1.bd hq hgq).1
  refine (mv.block g (Nat.lt_of_lt_of_le hg (Nat.le_trans (kA _).size gr1.size)) fun hm' => ?_).trans ((gr1.block g (Nat.lt_of_lt_of_le hg (kA _).size) fun e => ?_).trans ((kA _).block g hg))
  · have := hgo g hm'; omega
  · have := (owns_lt h.1 g e.symm).1; have := hH1 g e.symm; omega

set_option maxHeartbeats 1000000 in
theorem heldLockResult_any (c : Int) (gr : Bool) (B : Nat) (a1 : Option Addr) (m1 c1 : Nat) (a2 : Option Addr) (m2 c2 : Nat) (ls : List Ch.Lock) (vs : List (Value × Value)) (w : World) (h : MkRes w B a1 m1 c1 a2 m2 c2 ls vs) (hm : m1 ≤ 1048576) (hs : Ch.lkSize ls ≤ 1048576) :
    Calls Try.prog 31 #[.agg #[.int .i64 c, .bool gr, .slice a1 m1 c1, .slice a2 m2 c2], .int .i64 1] w fun e w' => e = .returned (.int .i64 (1 + (m1 : Int) + (Ch.pos ls m2 : Int))) ∧ Below w.heap.size w w' := by
  have kA : ∀ o, Below w.heap.size w (w.alloc o) := fun o => (Below.refl _ _).alloc (Nat.le_refl _) o
  have hL := (h.2.1.lkIn (by rw [lkMarks_size]; omega)).at
  have hz1 : ¬ (1 + (m1 : Int)) < 0 := by omega
  have hz2 : ¬ (1 + (m1 : Int) + (Ch.pos ls m2 : Int)) < 0 := by omega
  go_enter Try.func31, Try.ntmps31
  go_wp2_with fail
  refine (heldInts_any 1 a1 m1 c1 _ (by decide) (by decide) ((owns_cells h.1).below (kA _)) (by omega)).mono ?_
  rintro e w1 ⟨rfl, hw⟩
  obtain rfl := hw.symm
  go_wp2_with fail
  refine (heldLocks_any (1 + (m1 : Int)) a2 m2 c2 ls _ (hL.below (kA _)) (by omega) (by omega) (by omega) h.2.2).mono ?_
  rintro e w1 ⟨rfl, hw⟩
  obtain rfl := hw.symm
  go_wp2
  go_ret
  exact ⟨rfl, kA _⟩
end Go.Proofs.Yteblnejpohjjmaa
