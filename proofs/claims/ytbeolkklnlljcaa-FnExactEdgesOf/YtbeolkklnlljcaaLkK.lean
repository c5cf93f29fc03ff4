
/- Marks that a law writes into holds and locks. -/
import Derived.Test.YtbeolkklnlljcaaLkT
import Derived.Test.YtbeolkklnlljcaaLkN
namespace Go.Proofs.Ytbeolkklnlljcaa
open Go.RowKit

def hmark (s : Int) (k : Nat) : Ch.Hold := ⟨s + 2 * (k : Int), s + 2 * (k : Int) + 1⟩
def hmarks (s : Int) (n : Nat) : List Ch.Hold := (List.range n).map (hmark s)
theorem hmarks_len (s : Int) (n : Nat) : (hmarks s n).length = n := by simp [hmarks]
theorem hmarks_snoc (s : Int) (n : Nat) : hmarks s (n + 1) = hmarks s n ++ [hmark s n] := by simp [hmarks, List.range_succ]
theorem hmarks_at (s : Int) (n k : Nat) (h : k < n) : (hmarks s n).getD k Ch.Hold.zero = hmark s k := by simp [hmarks, List.getD, h]
def hmarked (s : Int) (rs : List Ch.Hold) (k : Nat) : List Ch.Hold := hmarks s k ++ rs.drop k
theorem hmarked_set (s : Int) (rs : List Ch.Hold) (k : Nat) (h : k < rs.length) :
    ((hcells (hmarked s rs k)).set (k * 2) (.int .i64 (s + 2 * (k : Int)))).set (k * 2 + 1) (.int .i64 (s + 2 * (k : Int) + 1)) = hcells (hmarked s rs (k + 1)) := by
  have := hcells_set (hmarked s rs k) k (hmark s k) (by simp [hmarked, hmarks_len]; omega)
  rw [show hcells (hmarked s rs (k + 1)) = hcells ((hmarked s rs k).set k (hmark s k)) by unfold hmarked; rw [Ch.set_mid _ _ _ _ (hmarks_len s k) h, hmarks_snoc], ← this]
  rfl

set_option maxHeartbeats 800000 in
theorem markHolds_some (s : Int) (B g n cp : Nat) (rs : List Ch.Hold) (w : World) (hs0 : 0 < s) (hs1 : s ≤ 1099511627776) (hown : w.ownsRow B 120 2 (.slice (some ⟨g, 0, none⟩) n cp) n (hcells rs)) (hn : n ≤ 1048579) :
    Calls Try.prog 105 #[.slice (some ⟨g, 0, none⟩) n cp, .int .i64 s] w fun e w' => e = .returned (.int .i64 (s + 2 * n)) ∧ w'.ownsRow B 120 2 (.slice (some ⟨g, 0, none⟩) n cp) n (hcells (hmarks s n)) ∧ w.grownBy w' (some g) := by
  have HL := (owns_cells hown).hlen
  go_enter Try.func105, Try.ntmps105
  go_wp2
  go_loopw [1, 5] (fun q i wr => ∃ k : Nat, k ≤ n ∧ i = .int .i64 k ∧ q = .int .i64 (s + 2 * (k : Int)) ∧ wr.ownsRow B 120 2 (.slice (some ⟨g, 0, none⟩) n cp) n (hcells (hmarked s rs k)) ∧ w.grownBy wr (some g)) (fun _ i _ => n - (intOf i).toNat)
  case atStart => exact ⟨0, Nat.zero_le _, rfl, by simp, by simpa [hmarked, hmarks] using hown, ⟨rfl, rfl, rfl, Nat.le_refl _, fun _ _ _ => rfl⟩⟩
  case round =>
    obtain ⟨k, hk, rfl, rfl, own, gr⟩ := hrel
    by_cases hlt : k < n
    · have hf0 := own.frozenAt (k * 2)
      have hf1 := own.frozenAt (k * 2 + 1)
      obtain ⟨u0, hd0⟩ := owns_some own (j := k * 2) (by omega)
      obtain ⟨u1, hd1⟩ := owns_some own (j := k * 2 + 1) (by omega)
      have HS := hid (hmarked_set s rs k (by have := HL.out; omega))
      go_wp2
      go_roundw
      case rel =>
        refine ⟨k + 1, by omega, by go_num, by go_num, ?_, ?_⟩
        · rw [← HS.out]; exact owns_stored2 own _ _ _
        · exact gr_trans gr (gr_trans (own.stored _ _).2 ((own.stored _ _).1.stored _ _).2)
      case measure => simp [intOf]; omega
    · obtain rfl : k = n := by omega
      go_wp2
      go_ret
      refine ⟨rfl, ?_, gr⟩
      have := HL.out
      simpa [hmarked, this] using own

theorem markHolds_nil (s : Int) (w : World) : Calls Try.prog 105 #[.slice none 0 0, .int .i64 s] w fun e w' => e = .returned (.int .i64 s) ∧ w' = w := by
  go_enter Try.func105, Try.ntmps105
  go_wp2
  go_loop [1, 5] (fun q i => i = .int .i64 0 ∧ q = .int .i64 s) (fun _ _ => 0)
  case atStart => exact ⟨rfl, rfl⟩
  case round =>
    obtain ⟨rfl, rfl⟩ := hrel
    go_wp2
    go_ret
    exact ⟨rfl, rfl⟩

theorem markHolds_any (s : Int) (B n : Nat) (a : Option Addr) (cap : Nat) (rs : List Ch.Hold) (w : World) (hs0 : 0 < s) (hs1 : s ≤ 1099511627776) (hown : w.ownsRow B 120 2 (.slice a n cap) n (hcells rs)) (hn : n ≤ 1048579) :
    Calls Try.prog 105 #[.slice a n cap, .int .i64 s] w fun e w' => e = .returned (.int .i64 (s + 2 * n)) ∧ w'.ownsRow B 120 2 (.slice a n cap) n (hcells (hmarks s n)) ∧ w.grownBy w' (Value.slice a n cap).ownBlock := by
  rcases hown.2 with ⟨hv, h0⟩ | ⟨g, cp, cur, hv, _⟩
  · simp only [Value.slice.injEq] at hv
    obtain ⟨rfl, rfl, rfl⟩ := hv
    refine (markHolds_nil s w).mono ?_
    rintro e w1 ⟨rfl, rfl⟩
    exact ⟨by simp, World.ownsRow_nil _ _ _ _, ⟨rfl, rfl, rfl, Nat.le_refl _, fun _ _ _ => rfl⟩⟩
  · simp only [Value.slice.injEq, true_and] at hv
    obtain ⟨rfl, rfl⟩ := hv
    exact markHolds_some s B g n cap rs w hs0 hs1 hown hn

/-- Where the marks of the k-th lock begin. -/
def Ch.pos (ls : List Ch.Lock) (k : Nat) : Nat := k + 2 * Ch.lkSum (ls.take k)
def lkMark (s : Int) (ls : List Ch.Lock) (k : Nat) : Ch.Lock := ⟨s + (Ch.pos ls k : Int), hmarks (s + (Ch.pos ls k : Int) + 1) (Ch.lkAt ls k).hs.length, hmarks (s + (Ch.pos ls k : Int) + 1 + 2 * ((Ch.lkAt ls k).hs.length : Int)) (Ch.lkAt ls k).qs.length⟩
def lkMarks (s : Int) (ls : List Ch.Lock) : List Ch.Lock := (List.range ls.length).map (lkMark s ls)
def lkMarked (s : Int) (ls : List Ch.Lock) (k : Nat) : List Ch.Lock := (List.range k).map (lkMark s ls) ++ ls.drop k
theorem lkMarked_set (s : Int) (ls : List Ch.Lock) (k : Nat) (h : k < ls.length) : (lkMarked s ls k).set k (lkMark s ls k) = lkMarked s ls (k + 1) := by
  unfold lkMarked
  rw [Ch.set_mid _ _ _ _ (by simp) h, List.range_succ]
  simp
theorem lkMarked_at (s : Int) (ls : List Ch.Lock) (k : Nat) : Ch.lkAt (lkMarked s ls k) k = Ch.lkAt ls k := by
  unfold lkMarked Ch.lkAt
  rw [List.getD, List.getElem?_append_right (by simp)]
  simp [List.getD]
theorem lkMarks_at (s : Int) (ls : List Ch.Lock) (k : Nat) (h : k < ls.length) : Ch.lkAt (lkMarks s ls) k = lkMark s ls k := by
  unfold lkMarks Ch.lkAt
  simp [List.getD, h]
theorem Ch.pos_next (ls : List Ch.Lock) (k : Nat) (h : k < ls.length) : Ch.pos ls (k + 1) = Ch.pos ls k + 1 + 2 * (Ch.lkAt ls k).hs.length + 2 * (Ch.lkAt ls k).qs.length := by
  unfold Ch.pos
  rw [Ch.lk_take ls k h]
  omega
theorem Ch.pos_small {ls : List Ch.Lock} {N : Nat} (hs : Ch.lkSize ls ≤ N) (k : Nat) (hk : k ≤ ls.length) : Ch.pos ls k ≤ 2 * N := by
  have := Ch.lk_le ls k
  unfold Ch.lkSize at hs
  unfold Ch.pos
  omega

theorem lcells_r {ls ls' : List Ch.Lock} {vs : List (Value × Value)} (h : ls.map (·.r) = ls'.map (·.r)) : lcells ls vs = lcells ls' vs := by
  induction ls generalizing ls' vs with
  | nil =>
    cases ls' with
    | nil => rfl
    | cons l ls' => simp at h
  | cons l ls ih =>
    cases ls' with
    | nil => simp at h
    | cons l' ls' =>
      simp at h
      cases vs with
      | nil => rfl
      | cons v vs =>
        have := ih (ls' := ls') (vs := vs) h.2
        simp only [lcells, List.zip_cons_cons, List.flatMap_cons] at *
        rw [this, h.1]
theorem map_r_set (ls : List Ch.Lock) (k : Nat) (l : Ch.Lock) (h : l.r = (Ch.lkAt ls k).r) : (ls.set k l).map (·.r) = ls.map (·.r) := by
  apply List.ext_getElem?
  intro i
  simp only [List.getElem?_map, List.getElem?_set]
  by_cases hik : k = i
  · subst hik
    rw [if_pos rfl]
    by_cases hk : k < ls.length
    · rw [if_pos hk]
      unfold Ch.lkAt at h
      simp [List.getD, hk] at h
      simp [hk, h]
    · rw [if_neg hk]
      simp [List.getElem?_eq_none (Nat.le_of_not_lt hk)]
  · rw [if_neg hik]

theorem set_same {α : Type} {l : List α} {k : Nat} {v : α} (h : l[k]? = some v) : l.set k v = l := by
  have hk : k < l.length := (List.getElem?_eq_some_iff.1 h).1
  apply List.ext_getElem?
  intro i
  by_cases e : k = i
  · subst e; rw [List.getElem?_set_self hk, h]
  · rw [List.getElem?_set_ne e]

/-- One lock's lists are written, where they lie. -/
theorem OwnK.turn {T : TypeId} {w w' : World} {B n : Nat} {v : Value} {ls : List Ch.Lock} {vs : List (Value × Value)} (h : OwnK T w B v n ls vs) {k : Nat} {p : Value × Value} (hp : vs[k]? = some p) {row : Option Nat} (hg : w.grownBy w' row) (hrow : ∀ g, row = some g → g ∈ blks p) (l : Ch.Lock) (hr : l.r = (Ch.lkAt ls k).r)
    (o1 : w'.ownsRow B 120 2 p.1 l.hs.length (hcells l.hs)) (o2 : w'.ownsRow B 120 2 p.2 l.qs.length (hcells l.qs)) : OwnK T w' B v n (ls.set k l) vs := by
  have hk := h.in hp
  have hkl : k < ls.length := by rw [h.len]; exact hk
  refine ⟨by simpa using h.len, h.vlen, ?_, fun i q hq => ?_, fun i q hq => ?_, h.apart⟩
  · rw [lcells_r (map_r_set ls k l hr)]
    exact owns_grown h.row hg fun g hgv e => apart_row h.apart hp hgv (hrow g e)
  · rw [lk_set ls k i l hkl]
    by_cases hik : k = i
    · subst hik
      rw [hp] at hq; cases hq
      rw [if_pos rfl]; exact o1
    · rw [if_neg hik]
      refine owns_grown (h.hs i q hq) hg fun g hgq e => ?_
      exact apart_two h.apart (fun e => hik e.symm) hq hp (by simp [blks, hgq]) (hrow g e)
  · rw [lk_set ls k i l hkl]
    by_cases hik : k = i
    · subst hik
      rw [hp] at hq; cases hq
      rw [if_pos rfl]; exact o2
    · rw [if_neg hik]
      refine owns_grown (h.qs i q hq) hg fun g hgq e => ?_
      exact apart_two h.apart (fun e => hik e.symm) hq hp (by simp [blks, hgq]) (hrow g e)
/-- A lock's number is written. -/
theorem OwnK.res {T : TypeId} {w : World} {B n o cap : Nat} {ls : List Ch.Lock} {vs : List (Value × Value)} (h : OwnK T w B (.slice (some ⟨o, 0, none⟩) n cap) n ls vs) {k : Nat} (hk : k < n) (r : Int) :
    OwnK T (w.setCell ⟨o, k * 3, none⟩ (.int .i64 r)) B (.slice (some ⟨o, 0, none⟩) n cap) n (ls.set k { Ch.lkAt ls k with r := r }) vs ∧ w.grownBy (w.setCell ⟨o, k * 3, none⟩ (.int .i64 r)) (some o) := by
  obtain ⟨p, hp⟩ := h.got hk
  have hkl : k < ls.length := by rw [h.len]; exact hk
  have hst := h.row.stored (k * 3) (.int .i64 r)
  have hno : ∀ i q, vs[i]? = some q → o ∉ blks q := fun i q hq => apart_row h.apart hq rfl
  have hat := lcells_at (ls := ls) (by rw [h.len, h.vlen]) hp
  refine ⟨⟨by simpa using h.len, h.vlen, ?_, fun i q hq => ?_, fun i q hq => ?_, h.apart⟩, hst.2⟩
  · have e := lcells_set (ls := ls) (vs := vs) k { Ch.lkAt ls k with r := r } p.1 p.2 (by rw [h.len, h.vlen]) hkl
    rw [show vs.set k (p.1, p.2) = vs from set_same hp] at e
    rw [← e]
    have e2 : ((((lcells ls vs).set (k * 3) (.int .i64 r)).set (k * 3 + 1) p.1).set (k * 3 + 2) p.2) = (lcells ls vs).set (k * 3) (.int .i64 r) := by
      rw [show ((lcells ls vs).set (k * 3) (.int .i64 r)).set (k * 3 + 1) p.1 = (lcells ls vs).set (k * 3) (.int .i64 r) from set_same (by rw [List.getElem?_set_ne (by omega)]; exact hat.2.1)]
      exact set_same (by rw [List.getElem?_set_ne (by omega)]; exact hat.2.2)
    rw [e2]
    exact hst.1
  · have := owns_grown (h.hs i q hq) hst.2 fun g hg e => by simp at e; subst e; exact hno i q hq (by simp [blks, hg])
    rw [lk_set ls k i _ hkl]
    split
    · next e => subst e; exact this
    · exact this
  · have := owns_grown (h.qs i q hq) hst.2 fun g hg e => by simp at e; subst e; exact hno i q hq (by simp [blks, hg])
    rw [lk_set ls k i _ hkl]
    split
    · next e => subst e; exact this
    · exact this

theorem OwnK.rowAt {T : TypeId} {w : World} {B n cap : Nat} {a : Option Addr} {ls : List Ch.Lock} {vs : List (Value × Value)} (h : OwnK T w B (.slice a n cap) n ls vs) {k : Nat} (hk : k < n) : ∃ o, a = some ⟨o, 0, none⟩ := by
  rcases h.row.2 with ⟨hv, h0⟩ | ⟨g, cp, cur, hv, _⟩
  · omega
  · simp only [Value.slice.injEq, true_and] at hv
    exact ⟨g, hv.1⟩

set_option maxHeartbeats 1000000 in
theorem markLocks_any (s : Int) (T : TypeId) (B : Nat) (a : Option Addr) (n cap : Nat) (ls : List Ch.Lock) (w0 w : World) (h : OwnLk T w0 B (.slice a n cap) n ls) (hb : Below w0.heap.size w0 w) (hs0 : 0 < s) (hs1 : s ≤ 1073741824) (hs : Ch.lkSize ls ≤ 1048579) :
    Calls Try.prog 43 #[.slice a n cap, .int .i64 s] w fun e w' => e = .returned (.int .i64 (s + (Ch.pos ls n : Int))) ∧ OwnLk T w' B (.slice a n cap) n (lkMarks s ls) ∧ Within B w0.heap.size w w' := by
  have HL : Hid (ls.length = n) := h.len
  obtain ⟨vs, h⟩ := h
  have hlt0 := fun i p (hp : vs[i]? = some p) g hg => h.bd hp (g := g) hg
  have hv0 := fun g hg => owns_lt h.row g hg
  replace h := h.below hb
  have hn : n ≤ 1048579 := by unfold Ch.lkSize at hs; have := HL.out; omega
  go_enter Try.func43, Try.ntmps43
  go_wp2
  go_loopw [1, 5] (fun q i wr => ∃ k : Nat, k ≤ n ∧ i = .int .i64 k ∧ q = .int .i64 (s + (Ch.pos ls k : Int)) ∧ OwnK T wr B (.slice a n cap) n (lkMarked s ls k) vs ∧ Within B w0.heap.size w wr) (fun _ i _ => n - (intOf i).toNat)
  case atStart => exact ⟨0, Nat.zero_le _, rfl, by simp [Ch.pos, Ch.lkSum], by simpa [lkMarked] using h, Within.refl _ _ _⟩
  case round =>
    obtain ⟨k, hk, rfl, rfl, own, hW⟩ := hrel
    by_cases hlt : k < n
    · have hkl : k < ls.length := by have := HL.out; omega
      have HS := hid (Ch.lk_one hs k)
      have HB := hid (Ch.pos_next ls k hkl)
      have hbs := Ch.pos_small hs k (by omega)
      have HM := hid (lkMarked_set s ls k hkl)
      have HK : Hid (lkMark s ls k = ⟨s + (Ch.pos ls k : Int), hmarks (s + (Ch.pos ls k : Int) + 1) (Ch.lkAt ls k).hs.length, hmarks (s + (Ch.pos ls k : Int) + 1 + 2 * ((Ch.lkAt ls k).hs.length : Int)) (Ch.lkAt ls k).qs.length⟩) := rfl
      have HAt := hid (lkMarked_at s ls k)
      obtain ⟨p, hp⟩ := own.got hlt
      obtain ⟨o, rfl⟩ := own.rowAt hlt
      have hrow := own.row
      have hat := lcells_at (ls := lkMarked s ls k) (by rw [own.len, own.vlen]) hp
      rw [HAt.out] at hat
      have c0 := (hrow.cellAt (k * 3) (by omega)).trans hat.1
      have c1 := (hrow.cellAt (k * 3 + 1) (by omega)).trans hat.2.1
      have c2 := (hrow.cellAt (k * 3 + 2) (by omega)).trans hat.2.2
      have f0 := hrow.frozenAt (k * 3)
      obtain ⟨ownR, grR⟩ := own.res hlt (s + (Ch.pos ls k : Int))
      have ob := hv0 o rfl
      have hob : o < w0.heap.size := ob.2
      have hW1 := hW.trans (within_grown grR ob.1 ob.2)
      have o1 := ownR.hs k p hp
      have o2 := ownR.qs k p hp
      rw [lk_set _ k k _ (by rw [own.len]; exact hlt), if_pos rfl, HAt.out] at o1 o2
      have ne12 := fun g hg => apart_one own.apart hp (g := g) hg
      have neR : o ∉ blks p := apart_row own.apart hp rfl
      have hpb := hlt0 k p hp
      clear hat hrow
      obtain ⟨x, y⟩ := p
      obtain ⟨ah, ch, ex⟩ := owns_shape o1
      obtain ⟨aq, cq, ey⟩ := owns_shape o2
      simp only at ex ey o1 o2 c1 c2 ne12 hpb
      subst ex ey
      rw [HAt.out] at ownR
      have hol := lt_of_cell c0
      have hne1 : ∀ g, (Value.slice ah (Ch.lkAt ls k).hs.length ch).ownBlock = some g → g ≠ o := fun g hg e => neR (by subst e; simp [blks, hg])
      have hne2 : ∀ g, (Value.slice aq (Ch.lkAt ls k).qs.length cq).ownBlock = some g → g ≠ o := fun g hg e => neR (by subst e; simp [blks, hg])
      generalize Ch.lkAt ls k = l at *
      generalize Ch.pos ls k = q at *
      obtain ⟨lr, lhs, lqs⟩ := l
      simp only at HS HB HK o1 o2 c0 c1 c2 ownR hne1 hne2
      obtain ⟨nh, HNH⟩ : ∃ nh, Hid (lhs.length = nh) := ⟨_, rfl⟩
      obtain ⟨nq, HNQ⟩ : ∃ nq, Hid (lqs.length = nq) := ⟨_, rfl⟩
      rw [HNH.out] at o1 c1 ne12 HB HK HS hne1 hp hpb
      rw [HNQ.out] at o2 c2 ne12 HB HK HS hne2 hp hpb
      have hnh : nh ≤ 1048579 := HS.out.1
      have hnq : nq ≤ 1048579 := HS.out.2
      go_wp2_with fail
      refine (markHolds_any (s + (q : Int) + 1) B nh ah ch lhs _ (by omega) (by omega) o1 hnh).mono ?_
      rintro e w1 ⟨rfl, own1, gr1⟩
      have o2 := owns_grown o2 gr1 (fun g hg e => ne12 g e hg)
      have ownA := ownR.turn hp gr1 (fun g hg => by simp [blks, hg]) ⟨s + (q : Int), hmarks (s + (q : Int) + 1) nh, lqs⟩ (by rw [lk_set _ k k _ (by rw [own.len]; exact hlt), if_pos rfl]) (by rw [hmarks_len]; exact own1) (by simp only; rw [HNQ.out]; exact o2)
      have c2 := (ownA.row.cellAt (k * 3 + 2) (by omega)).trans (lcells_at (by rw [ownA.len, ownA.vlen]) hp).2.2
      simp only at c2
      have hol := lt_of_cell c2
      have hx1 := fun g hg => hpb g (show g ∈ blks (Value.slice ah nh ch, Value.slice aq nq cq) by simp only [blks, List.mem_append, Option.mem_toList]; exact .inl hg)
      have hx2 := fun g hg => hpb g (show g ∈ blks (Value.slice ah nh ch, Value.slice aq nq cq) by simp only [blks, List.mem_append, Option.mem_toList]; exact .inr hg)
      have hW2 : Within B w0.heap.size w w1 := hW1.trans ⟨gr1.os, gr1.tape, gr1.output, gr1.size, fun j hj ho => gr1.block j hj (fun e => by have := hx1 j e.symm; omega)⟩
      clear c0 c1 f0 grR hW hW1 ownR
      go_wp2_with fail
      refine (markHolds_any (s + (q : Int) + 1 + 2 * (nh : Int)) B nq aq cq lqs _ (by omega) (by omega) o2 hnq).mono ?_
      rintro e w2 ⟨rfl, own2, gr2⟩
      have own1 := owns_grown own1 gr2 (fun g hg e => ne12 g hg e)
      have ownB := ownA.turn hp gr2 (fun g hg => by simp [blks, hg]) ⟨s + (q : Int), hmarks (s + (q : Int) + 1) nh, hmarks (s + (q : Int) + 1 + 2 * (nh : Int)) nq⟩ (by rw [lk_set _ k k _ (by simp [own.len]; exact hlt), if_pos rfl]) (by rw [hmarks_len]; exact own1) (by rw [hmarks_len]; exact own2)
      go_wp2
      go_roundw
      case rel =>
        refine ⟨k + 1, by omega, by go_num, by rw [HB.out]; go_num, ?_, hW2.trans ⟨gr2.os, gr2.tape, gr2.output, gr2.size, fun j hj ho => gr2.block j hj (fun e => by have := hx2 j e.symm; omega)⟩⟩
        rw [← HM.out, HK.out]
        simpa [List.set_set] using ownB
      case measure => simp [intOf]; omega
    · obtain rfl : k = n := by omega
      go_wp2
      go_ret
      refine ⟨rfl, ⟨vs, ?_⟩, hW⟩
      have e := HL.out
      subst e
      simpa [lkMarked, lkMarks] using own

end Go.Proofs.Ytbeolkklnlljcaa
