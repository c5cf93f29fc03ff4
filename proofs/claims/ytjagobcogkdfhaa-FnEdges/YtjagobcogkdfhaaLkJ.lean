
/- The model: who leaves, who is let in: l6Without, l6Free. -/
import Derived.Test.YtjagobcogkdfhaaLkI
import Derived.Test.YtjagobcogkdfhaaLkQ
import Derived.Deep.DeepCutAuto
namespace Go.Proofs.Ytjagobcogkdfhaa
open Go.RowKit

theorem empty_own (w : World) (B : Nat) (e : TypeId) (size : Nat) (hB : B ≤ w.heap.size) : (w.alloc (.cells #[] e)).ownsRow B e size (.slice (some ⟨w.heap.size, 0, none⟩) 0 0) 0 [] :=
  World.ownsRow_lit w #[] 0 hB (by unfold maxLen; omega) (by simp)

set_option maxHeartbeats 1000000 in
theorem l6Without_any (a : Option Addr) (n cap : Nat) (t : Int) (hs : List Ch.Hold) (w : World) (h : CellsAt w a (n * 2) (hcells hs)) (hn : n ≤ 1048576) :
    Calls Try.prog 207 #[.slice a n cap, .int .i64 t] w fun e w' => ∃ a' c', e = .returned (.slice a' (Ch.withoutH hs t).length c') ∧ w'.ownsRow w.heap.size 131 2 (.slice a' (Ch.withoutH hs t).length c') (Ch.withoutH hs t).length (hcells (Ch.withoutH hs t)) ∧ Below w.heap.size w w' := by
  have HL := h.hlen
  obtain ⟨i0, hi0, hz0, hz1, hz2⟩ := info_parts Try.info131
  have oE := empty_own w w.heap.size 131 2 (Nat.le_refl _)
  go_enter Try.func207, Try.ntmps207
  go_wp2
  go_loopw [5, 6] (fun q i wr => ∃ (k m : Nat) (a' : Option Addr) (c' : Nat), k ≤ n ∧ m ≤ k ∧ i = .int .i64 k ∧ q = .slice a' m c' ∧ wr.ownsRow w.heap.size 131 2 (.slice a' m c') m (hcells (Ch.withoutH (hs.take k) t)) ∧ Below w.heap.size w wr) (fun _ i _ => n - (intOf i).toNat)
  case atStart => exact ⟨0, 0, _, 0, Nat.zero_le _, Nat.le_refl _, rfl, rfl, oE, (Below.refl _ _).alloc (Nat.le_refl _) _⟩
  case round =>
    clear oE
    obtain ⟨k, m, a', c', hk, hmk, rfl, rfl, own, hB⟩ := hrel
    by_cases hlt : k < n
    · have hkl : k < hs.length := by have := HL.out; omega
      have HY := hid (fun he => Ch.without_yes (t := t) hkl he)
      have HN := hid (fun he => Ch.without_no (t := t) hkl he)
      obtain ⟨b, off, rfl, q0, q1⟩ := (h.below hB).hold hlt
      have hbl := lt_of_cell q0
      generalize hs.getD k Ch.Hold.zero = r at *
      obtain ⟨rt, rm⟩ := r
      simp only at q0 q1 HY HN
      generalize Ch.withoutH (hs.take k) t = zs at *
      have hsum : m + 1 ≤ 4194304 := by omega
      by_cases he : rt = t
      · subst he
        have hne : (rt != rt) = false := by simp
        go_wp2
        go_roundw
        case rel => exact ⟨k + 1, m, a', c', by omega, by omega, by go_num, rfl, by rw [HN.out (by simp)]; exact own, hB⟩
        case measure => simp [intOf]; omega
      · have hne : (rt != t) = true := by simpa using he
        have k2 : Below wr.heap.size wr (wr.alloc (.cells #[.int .i64 rt, .int .i64 rm] 131)) := (Below.refl _ _).alloc (Nat.le_refl _) _
        have own2 := owns_below own k2
        have hb2 : w.heap.size ≤ (wr.alloc (.cells #[.int .i64 rt, .int .i64 rm] 131)).heap.size := Nat.le_trans hB.size k2.size
        have hC := new_hold wr rt rm 131
        go_wp2_with (at_builtin; go_must (refine wpList_appX Try.underlying127 Try.underlying127 hi0 hz0 hz1 hz2 rfl (by omega) (by omega) (.tmp 21) (.tmp 26) ?_ ?_ w.heap.size (.slice a' m c') m (hcells zs) _ 1 1 (hcells [⟨rt, rm⟩]) ?_ ?_ own2 hC (hcells_one' _) hsum hb2 ?_; exact rfl; exact rfl; exact rfl; exact rfl; intro a5 c5 w5 own5 gr5 at5))
        go_roundw
        case rel =>
          rw [← hcells_append, ← HY.out he] at own5
          have b2 := hB.trans (k2.mono hB.size)
          exact ⟨k + 1, m + 1, a5, c5, by omega, by omega, by go_num, rfl, own5, b2.grown gr5 b2.size (fun g hg => (owns_lt own2 g hg).1)⟩
        case measure => simp [intOf]; omega
    · obtain rfl : k = n := by omega
      have HWF : Hid (hs.take k = hs) := by have := HL.out; show _ = _; rw [this]; exact List.take_length
      rw [HWF.out] at own
      have hm := (owns_hlen own).out
      subst hm
      go_wp2
      go_ret
      exact ⟨a', c', rfl, own, hB⟩

/-- The block of a list that is read. -/
def aBlk : Value → List Nat
  | .slice (some ⟨b, _, none⟩) _ _ => [b]
  | _ => []
theorem aBlk_slice {a : Option Addr} {m c g : Nat} (h : g ∈ aBlk (.slice a m c)) : ∃ o, a = some ⟨g, o, none⟩ := by
  match a with
  | none => simp [aBlk] at h
  | some ⟨b, o, some s⟩ => simp [aBlk] at h
  | some ⟨b, o, none⟩ =>
    simp only [aBlk, List.mem_singleton] at h
    subst h; exact ⟨o, rfl⟩
def rblk (p : Value × Value) : List Nat := aBlk p.1 ++ aBlk p.2
/-- Behind a list there is room up to its capacity. -/
def Roomy (w : World) (x : Value) : Prop := (∃ n, x = .slice none n 0) ∨ ∃ g o n c, x = .slice (some ⟨g, o, none⟩) n c ∧ ∀ j, j < c * 2 → (w.cell? ⟨g, o + j, none⟩).isSome = true ∧ w.frozen? ⟨g, o + j, none⟩ = false
def SubOk (w : World) (B : Nat) (x : Value) (hs : List Ch.Hold) : Prop := ∃ a n c, x = .slice a n c ∧ CellsAt w a (n * 2) (hcells hs) ∧ n ≤ c ∧ n ≤ 1048579 ∧ (∀ g ∈ aBlk x, B ≤ g ∧ g < w.heap.size) ∧ Roomy w x
theorem roomy_grown {w w' : World} {x : Value} {row : Option Nat} (h : Roomy w x) (gr : w.grownBy w' row) (hl : ∀ g ∈ aBlk x, g < w.heap.size) (hr : ∀ g, row = some g → g ∉ aBlk x) : Roomy w' x := by
  rcases h with h | ⟨g, o, n, c, rfl, hc⟩
  · exact .inl h
  · refine .inr ⟨g, o, n, c, rfl, fun j hj => ?_⟩
    have hb := gr.block g (hl g (by simp [aBlk])) (fun e => hr g e.symm (by simp [aBlk]))
    have hcj := hc j hj
    simp only [World.cell?, World.frozen?] at hcj ⊢
    rw [hb]
    exact hcj
theorem sub_grown {w w' : World} {B : Nat} {x : Value} {hs : List Ch.Hold} {row : Option Nat} (h : SubOk w B x hs) (gr : w.grownBy w' row) (hr : ∀ g, row = some g → g ∉ aBlk x) : SubOk w' B x hs := by
  obtain ⟨a, n, c, rfl, hc, h1, h2, h3, h4⟩ := h
  refine ⟨a, n, c, rfl, ?_, h1, h2, fun g hg => ⟨(h3 g hg).1, Nat.lt_of_lt_of_le (h3 g hg).2 gr.size⟩, roomy_grown h4 gr (fun g hg => (h3 g hg).2) hr⟩
  rcases Nat.eq_zero_or_pos n with h0 | h0
  · subst h0; exact ⟨hc.1, fun h => absurd h (by simp)⟩
  · exact cells_grown hc gr fun b off ha e => hr b e (by subst ha; simp [aBlk])
theorem roomy_own {w : World} {B n : Nat} {x : Value} {xs : List Value} (h : w.ownsRow B 131 2 x n xs) : Roomy w x := by
  rcases h.2 with ⟨rfl, _⟩ | ⟨g, cap, cur, rfl, _, hg, _, _, hs, _⟩
  · exact .inl ⟨_, rfl⟩
  · refine .inr ⟨g, 0, n, cap, rfl, fun j hj => ?_⟩
    rw [Nat.zero_add]
    refine ⟨?_, frz_of hg⟩
    rw [cell_of_row _ _ _ _ _ _ hg]
    simp [show j < cur.size by omega]
theorem sub_own {w : World} {B : Nat} {x : Value} {hs : List Ch.Hold} (h : w.ownsRow B 131 2 x hs.length (hcells hs)) (hn : hs.length ≤ 1048579) : SubOk w B x hs ∧ ∀ g ∈ aBlk x, x.ownBlock = some g := by
  have hrm := roomy_own h
  obtain ⟨a, c, rfl⟩ := owns_shape h
  have hb : ∀ g ∈ aBlk (.slice a hs.length c), (Value.slice a hs.length c).ownBlock = some g := by
    intro g hg
    obtain ⟨o, rfl⟩ := aBlk_slice hg
    rfl
  exact ⟨⟨a, _, c, rfl, owns_cells h, owns_cap h, hn, fun g hg => owns_lt h g (hb g hg), hrm⟩, hb⟩
/-- A queue that was cut at its front, and the row that it is cut from. -/
def QF (aq : Option Addr) (cq : Nat) (a2 : Option Addr) (d2 : Nat) : Prop := (aq = none ∧ cq = 0) ∨ ∃ g o, aq = some ⟨g, o, none⟩ ∧ a2 = some ⟨g, 0, none⟩ ∧ o + cq * 2 ≤ d2 * 2
theorem QF.blk {aq a2 : Option Addr} {cq d2 g o m : Nat} (h : QF aq cq a2 d2) (e : aq = some ⟨g, o, none⟩) : (Value.slice a2 m d2).ownBlock = some g := by
  rcases h with ⟨h, _⟩ | ⟨g', o', h1, h2, _⟩
  · rw [h] at e; cases e
  · rw [h1] at e
    simp only [Option.some.injEq, Addr.mk.injEq, and_true] at e
    rw [h2, ← e.1]; rfl
theorem QF.tail {a2 : Option Addr} {cq d2 qb qo : Nat} (h : QF (some ⟨qb, qo, none⟩) cq a2 d2) (h1 : 1 ≤ cq) : QF (some ⟨qb, qo + 2, none⟩) (cq - 1) a2 d2 := by
  rcases h with ⟨h, _⟩ | ⟨g', o', h2, h3, h4⟩
  · cases h
  · simp only [Option.some.injEq, Addr.mk.injEq, and_true] at h2
    exact .inr ⟨qb, qo + 2, rfl, by rw [h3, h2.1], by rw [h2.2]; omega⟩
theorem QF.last {a2 : Option Addr} {cq d2 qb qo : Nat} (h : QF (some ⟨qb, qo, none⟩) cq a2 d2) : QF (some ⟨qb, qo, none⟩) 0 a2 d2 := by
  rcases h with ⟨h, _⟩ | ⟨g', o', h2, h3, h4⟩
  · cases h
  · simp only [Option.some.injEq, Addr.mk.injEq, and_true] at h2
    exact .inr ⟨qb, qo, rfl, by rw [h3, h2.1], by rw [h2.2]; omega⟩
theorem QF.own {w : World} {B n a2d : Nat} {a2 : Option Addr} {e : TypeId} {size : Nat} {xs : List Value} (h : w.ownsRow B e size (.slice a2 n a2d) n xs) : QF a2 a2d a2 a2d := by
  rcases h.2 with ⟨hv, _⟩ | ⟨g, cap, cur, hv, _⟩
  · simp only [Value.slice.injEq] at hv; exact .inl ⟨hv.1, hv.2.2⟩
  · simp only [Value.slice.injEq] at hv; exact .inr ⟨g, 0, hv.1, hv.1, by omega⟩
theorem QF.roomy {w : World} {B n m cq d2 : Nat} {aq a2 : Option Addr} {xs : List Value} (h : QF aq cq a2 d2) (ho : w.ownsRow B 131 2 (.slice a2 n d2) n xs) : Roomy w (.slice aq m cq) := by
  rcases h with ⟨rfl, rfl⟩ | ⟨g, o, rfl, rfl, hle⟩
  · exact .inl ⟨_, rfl⟩
  · refine .inr ⟨g, o, m, cq, rfl, fun j hj => ?_⟩
    rcases ho.2 with ⟨hv, _⟩ | ⟨g', cap, cur, hv, _, hg, _, _, hs, _⟩
    · simp at hv
    · simp only [Value.slice.injEq, Option.some.injEq, Addr.mk.injEq, and_true, true_and] at hv
      obtain ⟨rfl, rfl⟩ := hv
      refine ⟨?_, frz_of hg⟩
      rw [cell_of_row _ _ _ _ _ _ hg]
      simp [show o + j < cur.size by omega]
/-- Locks in a row of one's own, their lists read. -/
structure ReadK (w : World) (B : Nat) (v : Value) (n : Nat) (ls : List Ch.Lock) (vs : List (Value × Value)) : Prop where
  len : ls.length = n
  vlen : vs.length = n
  row : w.ownsRow B 129 3 v n (lcells ls vs)
  hs : ∀ i p, vs[i]? = some p → SubOk w B p.1 (Ch.lkAt ls i).hs
  qs : ∀ i p, vs[i]? = some p → SubOk w B p.2 (Ch.lkAt ls i).qs
  apart : (v.ownBlock.toList ++ vs.flatMap rblk).Nodup
theorem rflat_mem {vs : List (Value × Value)} {g : Nat} (h : g ∈ vs.flatMap rblk) : ∃ (i : Nat) (p : Value × Value), vs[i]? = some p ∧ g ∈ rblk p := by
  rw [List.mem_flatMap] at h
  obtain ⟨p, hp, hg⟩ := h
  obtain ⟨i, hi, rfl⟩ := List.getElem_of_mem hp
  exact ⟨i, _, by simp [hi], hg⟩
theorem ReadK.bd {w : World} {B n : Nat} {v : Value} {ls : List Ch.Lock} {vs : List (Value × Value)} (h : ReadK w B v n ls vs) {g : Nat} (hg : g ∈ v.ownBlock.toList ++ vs.flatMap rblk) : B ≤ g ∧ g < w.heap.size := by
  rw [List.mem_append] at hg
  rcases hg with hg | hg
  · exact owns_lt h.row g (by simpa using hg)
  · obtain ⟨i, p, hp, hgp⟩ := rflat_mem hg
    unfold rblk at hgp
    rw [List.mem_append] at hgp
    rcases hgp with h1 | h1
    · obtain ⟨_, _, _, _, _, _, _, hh, _⟩ := h.hs i p hp; exact hh g h1
    · obtain ⟨_, _, _, _, _, _, _, hh, _⟩ := h.qs i p hp; exact hh g h1
theorem ReadK.other {w w' : World} {B n : Nat} {v : Value} {ls : List Ch.Lock} {vs : List (Value × Value)} (h : ReadK w B v n ls vs) {row : Option Nat} (gr : w.grownBy w' row) (hr : ∀ g, row = some g → g ∉ v.ownBlock.toList ++ vs.flatMap rblk) : ReadK w' B v n ls vs := by
  have hin : ∀ (i : Nat) (p : Value × Value), vs[i]? = some p → ∀ g ∈ rblk p, g ∈ v.ownBlock.toList ++ vs.flatMap rblk := fun i p hp g hg => List.mem_append.2 (.inr (List.mem_flatMap.2 ⟨p, List.mem_of_getElem? hp, hg⟩))
  refine ⟨h.len, h.vlen, owns_grown h.row gr fun g hg e => hr g e (List.mem_append.2 (.inl (by simp [hg]))), fun i p hp => sub_grown (h.hs i p hp) gr fun g e hg => hr g e (hin i p hp g (by simp [rblk, hg])), fun i p hp => sub_grown (h.qs i p hp) gr fun g e hg => hr g e (hin i p hp g (by simp [rblk, hg])), h.apart⟩
theorem ReadK.below {w w' : World} {B n : Nat} {v : Value} {ls : List Ch.Lock} {vs : List (Value × Value)} (h : ReadK w B v n ls vs) (hb : Below w.heap.size w w') : ReadK w' B v n ls vs := h.other (below_grown hb none) (fun g hg => by cases hg)
theorem ReadK.snoc {w w' : World} {B n : Nat} {v : Value} {ls : List Ch.Lock} {vs : List (Value × Value)} (h : ReadK w B v n ls vs) {l : Ch.Lock} {x y : Value} {a' : Option Addr} {c' : Nat}
    (own : w'.ownsRow B 129 3 (.slice a' (n + 1) c') (n + 1) (lcells ls vs ++ [.int .i64 l.r, x, y])) (gr : w.grownBy w' v.ownBlock) (hat : ∀ g, (Value.slice a' (n + 1) c').ownBlock = some g → v.ownBlock = some g ∨ w.heap.size ≤ g)
    (hx : SubOk w B x l.hs) (hy : SubOk w B y l.qs) (hn : ∀ g ∈ rblk (x, y), g ∉ v.ownBlock.toList ++ vs.flatMap rblk) (hnd : (rblk (x, y)).Nodup) : ReadK w' B (.slice a' (n + 1) c') (n + 1) (ls ++ [l]) (vs ++ [(x, y)]) := by
  have hl : ls.length = vs.length := by rw [h.len, h.vlen]
  have hget : ∀ (i : Nat) (q : Value × Value), (vs ++ [(x, y)])[i]? = some q → (i = n ∧ q = (x, y)) ∨ (i < n ∧ vs[i]? = some q) := by
    intro i q hq
    rcases Nat.lt_trichotomy i n with hi | hi | hi
    · rw [List.getElem?_append_left (by rw [h.vlen]; exact hi)] at hq
      exact .inr ⟨hi, hq⟩
    · subst hi
      rw [List.getElem?_append_right (by rw [h.vlen]; omega)] at hq
      simp [h.vlen] at hq
      exact .inl ⟨rfl, hq.symm⟩
    · rw [List.getElem?_eq_none (by simp [h.vlen]; omega)] at hq
      cases hq
  have hlk : ∀ i, i < n → Ch.lkAt (ls ++ [l]) i = Ch.lkAt ls i := by
    intro i hi
    unfold Ch.lkAt
    simp [List.getD, List.getElem?_append_left (show i < ls.length by rw [h.len]; exact hi)]
  have hln : Ch.lkAt (ls ++ [l]) n = l := by
    unfold Ch.lkAt
    simp [List.getD, h.len]
  have hsub : ∀ (i : Nat) (q : Value × Value), (vs ++ [(x, y)])[i]? = some q → ∀ g ∈ rblk q, g < w.heap.size ∧ v.ownBlock ≠ some g := by
    intro i q hq g hg
    rcases hget i q hq with ⟨_, rfl⟩ | ⟨_, hq⟩
    · refine ⟨?_, fun e => hn g hg (List.mem_append.2 (.inl (by simp [e])))⟩
      simp only [rblk, List.mem_append] at hg
      rcases hg with hg | hg
      · obtain ⟨_, _, _, _, _, _, _, hh, _⟩ := hx; exact (hh g hg).2
      · obtain ⟨_, _, _, _, _, _, _, hh, _⟩ := hy; exact (hh g hg).2
    · have hm : g ∈ vs.flatMap rblk := List.mem_flatMap.2 ⟨q, List.mem_of_getElem? hq, hg⟩
      exact ⟨(h.bd (List.mem_append.2 (.inr hm))).2, fun e => (List.nodup_append.1 h.apart).2.2 g (by simp [e]) g hm rfl⟩
  refine ⟨by simp [h.len], by simp [h.vlen], ?_, fun i q hq => ?_, fun i q hq => ?_, ?_⟩
  · rw [lcells_append hl]; exact own
  · have hs := hsub i q hq
    rcases hget i q hq with ⟨rfl, rfl⟩ | ⟨hi, hq'⟩
    · rw [hln]; exact sub_grown hx gr fun g e hg => (hs g (by simp [rblk, hg])).2 e
    · rw [hlk i hi]; exact sub_grown (h.hs i q hq') gr fun g e hg => (hs g (by simp [rblk, hg])).2 e
  · have hs := hsub i q hq
    rcases hget i q hq with ⟨rfl, rfl⟩ | ⟨hi, hq'⟩
    · rw [hln]; exact sub_grown hy gr fun g e hg => (hs g (by simp [rblk, hg])).2 e
    · rw [hlk i hi]; exact sub_grown (h.qs i q hq') gr fun g e hg => (hs g (by simp [rblk, hg])).2 e
  · rw [List.flatMap_append]
    have h2 := List.nodup_append.1 h.apart
    have e1 : [(x, y)].flatMap rblk = rblk (x, y) := by simp
    rw [e1, List.nodup_append]
    refine ⟨by cases (Value.slice a' (n + 1) c').ownBlock <;> simp, ?_, ?_⟩
    · rw [List.nodup_append]
      refine ⟨h2.2.1, hnd, fun a ha b hb e => ?_⟩
      subst e
      exact hn a hb (List.mem_append.2 (.inr ha))
    · intro a ha b hb e
      subst e
      have ha' : (Value.slice a' (n + 1) c').ownBlock = some a := by simpa using ha
      have hm : a ∈ (vs ++ [(x, y)]).flatMap rblk := by rw [List.flatMap_append, e1]; exact hb
      obtain ⟨i, q, hq, hgq⟩ := rflat_mem hm
      have hs := hsub i q hq a hgq
      rcases hat a ha' with h1 | h1
      · exact hs.2 h1
      · omega
theorem ReadK.lkIn {w : World} {B n cap : Nat} {a : Option Addr} {ls : List Ch.Lock} {vs : List (Value × Value)} (h : ReadK w B (.slice a n cap) n ls vs) : LkIn B w.heap.size w a n ls := by
  refine ⟨h.len, fun h0 => ?_⟩
  have hc := owns_cells h.row
  obtain ⟨b, off, ha, hcc⟩ := hc.2 (by omega)
  subst ha
  have hob : B ≤ b ∧ b < w.heap.size ∧ off = 0 := by
    rcases h.row.2 with ⟨hv, h0'⟩ | ⟨g, cp, cur, hv, _⟩
    · omega
    · have := owns_lt h.row g (by rw [hv]; rfl)
      simp only [Value.slice.injEq, Option.some.injEq, Addr.mk.injEq] at hv
      obtain ⟨⟨rfl, rfl, _⟩, _⟩ := hv
      exact ⟨this.1, this.2, rfl⟩
  refine ⟨b, off, rfl, hob.1, hob.2.1, fun i hi => ?_⟩
  obtain ⟨p, hp⟩ : ∃ p, vs[i]? = some p := ⟨vs[i]'(by rw [h.vlen]; exact hi), by simp⟩
  have hl := lcells_at (by rw [h.len, h.vlen]) hp (ls := ls)
  obtain ⟨ah, nh, ch, e1, k1, k2, k3, k4, _⟩ := h.hs i p hp
  obtain ⟨aq, nq, cq, e2, j1, j2, j3, j4, _⟩ := h.qs i p hp
  rw [e1] at hl k4
  rw [e2] at hl j4
  refine ⟨ah, nh, ch, aq, nq, cq, ⟨(hcc _ (by omega)).trans hl.1, ?_, ?_, k1, j1, by omega, by omega, k2, j2⟩, fun g o _ e => k4 g (by subst e; simp [aBlk]), fun g o _ e => j4 g (by subst e; simp [aBlk])⟩
  · rw [Nat.add_assoc]; exact (hcc _ (by omega)).trans hl.2.1
  · rw [Nat.add_assoc]; exact (hcc _ (by omega)).trans hl.2.2
theorem ReadK.empty (w : World) (B : Nat) (hB : B ≤ w.heap.size) : ReadK (w.alloc (.cells #[] 129)) B (.slice (some ⟨w.heap.size, 0, none⟩) 0 0) 0 [] [] :=
  ⟨rfl, rfl, empty_own w B _ 3 hB, fun i p hp => by simp at hp, fun i p hp => by simp at hp, by simp [Value.ownBlock]⟩
theorem row3 {W : World} {g : Nat} {t : TypeId} {u0 u1 u2 : Value} (h : W.heap[g]? = some (.cells #[u0, u1, u2] t (0, 0))) :
    (W.cell? ⟨g, 0, none⟩ = some u0 ∧ W.cell? ⟨g, 1, none⟩ = some u1 ∧ W.cell? ⟨g, 2, none⟩ = some u2) ∧ (W.frozen? ⟨g, 0, none⟩ = false ∧ W.frozen? ⟨g, 1, none⟩ = false ∧ W.frozen? ⟨g, 2, none⟩ = false) :=
  ⟨⟨cell_of_row _ _ _ _ _ _ h, cell_of_row _ _ _ _ _ _ h, cell_of_row _ _ _ _ _ _ h⟩, frz_of h, frz_of h, frz_of h⟩
theorem CellsAt.hdrop {w : World} {b off n : Nat} {hs : List Ch.Hold} (h : CellsAt w (some ⟨b, off, none⟩) (n * 2) (hcells hs)) (j : Nat) (hj : j ≤ n) : CellsAt w (some ⟨b, off + j * 2, none⟩) ((n - j) * 2) (hcells (hs.drop j)) := by
  have hl := h.hlen.out
  have e : hcells (hs.drop j) = (hcells hs).drop (j * 2) := by
    have h1 : hcells hs = hcells (hs.take j) ++ hcells (hs.drop j) := by rw [← hcells_append, List.take_append_drop]
    have h2 : (hcells (hs.take j)).length = j * 2 := by rw [hcells_len]; simp; omega
    rw [h1, ← h2, List.drop_left]
  refine ⟨by rw [hcells_len]; simp; omega, fun hm => ?_⟩
  obtain ⟨b', off', ha, hc⟩ := h.2 (by omega)
  simp only [Option.some.injEq, Addr.mk.injEq, and_true] at ha
  obtain ⟨rfl, rfl⟩ := ha
  refine ⟨b, off + j * 2, rfl, fun i hi => ?_⟩
  rw [e, List.getElem?_drop, Nat.add_assoc, hc _ (by omega)]
end Go.Proofs.Ytjagobcogkdfhaa
