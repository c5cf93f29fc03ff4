
/- Locks of one's own: one more, new lists at their places; locks whose blocks are bounded. -/
import Derived.Test.YtjagobcogkdfhaaLkTZ
namespace Go.Proofs.Ytjagobcogkdfhaa
open Go.RowKit

theorem below_grown {w w' : World} (h : Below w.heap.size w w') (row : Option Nat) : w.grownBy w' row := ⟨h.os, h.tape, h.output, h.size, fun k hk _ => h.block k hk⟩

/-- The row's block changes its place for a new one. -/
theorem apart_v {v v' : Value} {vs : List (Value × Value)} {H : Nat} (h : (v.ownBlock.toList ++ vs.flatMap blks).Nodup) (hat : ∀ g, v'.ownBlock = some g → v.ownBlock = some g ∨ H ≤ g) (ho : ∀ (i : Nat) (q : Value × Value), vs[i]? = some q → ∀ g ∈ blks q, g < H) : (v'.ownBlock.toList ++ vs.flatMap blks).Nodup := by
  rw [List.nodup_append] at h ⊢
  refine ⟨?_, h.2.1, fun a ha b hb e => ?_⟩
  · cases v'.ownBlock <;> simp
  · subst e
    rcases hat a (by simpa using ha) with h1 | h1
    · exact h.2.2 a (by simp [h1]) a hb rfl
    · obtain ⟨i, q, hq, hg⟩ := flat_mem hb
      have := ho i q hq a hg
      omega
theorem apart_snoc {v : Value} {vs : List (Value × Value)} {x y : Value} {H : Nat} (h : (v.ownBlock.toList ++ vs.flatMap blks).Nodup) (hv : ∀ g, v.ownBlock = some g → g < H) (ho : ∀ (i : Nat) (q : Value × Value), vs[i]? = some q → ∀ g ∈ blks q, g < H)
    (hxy : ∀ g, x.ownBlock = some g → y.ownBlock ≠ some g) (hx : ∀ g, x.ownBlock = some g → H ≤ g) (hy : ∀ g, y.ownBlock = some g → H ≤ g) : (v.ownBlock.toList ++ (vs ++ [(x, y)]).flatMap blks).Nodup := by
  rw [List.flatMap_append, ← List.append_assoc]
  rw [List.nodup_append]
  refine ⟨h, ?_, fun a ha b hb e => ?_⟩
  · simp only [List.flatMap_cons, List.flatMap_nil, List.append_nil, blks]
    rw [List.nodup_append]
    refine ⟨?_, ?_, ?_⟩
    · cases x.ownBlock <;> simp
    · cases y.ownBlock <;> simp
    · intro a ha b hb e
      subst e
      exact hxy a (by simpa using ha) (by simpa using hb)
  · subst e
    have hH : H ≤ a := by
      simp only [List.flatMap_cons, List.flatMap_nil, List.append_nil, blks, List.mem_append, Option.mem_toList] at hb
      rcases hb with hb | hb
      · exact hx a hb
      · exact hy a hb
    rw [List.mem_append] at ha
    rcases ha with ha | ha
    · have := hv a (by simpa using ha); omega
    · obtain ⟨i, q, hq, hg⟩ := flat_mem ha
      have := ho i q hq a hg; omega

/-- One more lock behind the others. -/
theorem OwnK.snoc {T : TypeId} {w w' : World} {B n : Nat} {v : Value} {ls : List Ch.Lock} {vs : List (Value × Value)} (h : OwnK T w B v n ls vs) {l : Ch.Lock} {x y : Value} {a' : Option Addr} {c' : Nat}
    (own : w'.ownsRow B T 3 (.slice a' (n + 1) c') (n + 1) (lcells ls vs ++ [.int .i64 l.r, x, y])) (gr : w.grownBy w' v.ownBlock) (hat : ∀ g, (Value.slice a' (n + 1) c').ownBlock = some g → v.ownBlock = some g ∨ w.heap.size ≤ g)
    (hx : w.ownsRow B 131 2 x l.hs.length (hcells l.hs)) (hy : w.ownsRow B 131 2 y l.qs.length (hcells l.qs)) (hn : (v.ownBlock.toList ++ (vs ++ [(x, y)]).flatMap blks).Nodup) : OwnK T w' B (.slice a' (n + 1) c') (n + 1) (ls ++ [l]) (vs ++ [(x, y)]) := by
  have hl : ls.length = vs.length := by rw [h.len, h.vlen]
  have hget : ∀ (i : Nat) (q : Value × Value), (vs ++ [(x, y)])[i]? = some q → (i = n ∧ q = (x, y)) ∨ (i < n ∧ vs[i]? = some q) := by
    intro i q hq
    rcases Nat.lt_trichotomy i n with hi | hi | hi
    · rw [List.getElem?_append_left (by rw [h.vlen]; exact hi)] at hq
      exact .inr ⟨hi, hq⟩
    · subst hi
      rw [List.getElem?_append_right (by rw [h.vlen]; omega)] at hq
      simp [h.vlen] at hq
      exact .inl ⟨rfl, hq.symm⟩
    · rw [List.getElem?_eq_none (by simp [h.vlen]; omega)] at hq
      cases hq
  have hlk : ∀ i, i < n → Ch.lkAt (ls ++ [l]) i = Ch.lkAt ls i := by
    intro i hi
    unfold Ch.lkAt
    simp [List.getD, List.getElem?_append_left (show i < ls.length by rw [h.len]; exact hi)]
  have hln : Ch.lkAt (ls ++ [l]) n = l := by
    unfold Ch.lkAt
    simp [List.getD, h.len]
  have hsub : ∀ (i : Nat) (q : Value × Value), (vs ++ [(x, y)])[i]? = some q → ∀ g ∈ blks q, g < w.heap.size ∧ v.ownBlock ≠ some g := by
    intro i q hq g hg
    refine ⟨?_, fun e => apart_row hn hq e hg⟩
    rcases hget i q hq with ⟨_, rfl⟩ | ⟨_, hq⟩
    · simp only [blks, List.mem_append, Option.mem_toList] at hg
      rcases hg with hg | hg
      · exact (owns_lt hx g hg).2
      · exact (owns_lt hy g hg).2
    · exact (h.bd hq hg).2
  refine ⟨by simp [h.len], by simp [h.vlen], ?_, fun i q hq => ?_, fun i q hq => ?_, apart_v hn hat (fun i q hq g hg => (hsub i q hq g hg).1)⟩
  · rw [lcells_append hl]; exact own
  · have hs := hsub i q hq
    rcases hget i q hq with ⟨rfl, rfl⟩ | ⟨hi, hq'⟩
    · rw [hln]; exact owns_grown hx gr fun g hg e => (hs g (by simp [blks, hg])).2 e
    · rw [hlk i hi]; exact owns_grown (h.hs i q hq') gr fun g hg e => (hs g (by simp [blks, hg])).2 e
  · have hs := hsub i q hq
    rcases hget i q hq with ⟨rfl, rfl⟩ | ⟨hi, hq'⟩
    · rw [hln]; exact owns_grown hy gr fun g hg e => (hs g (by simp [blks, hg])).2 e
    · rw [hlk i hi]; exact owns_grown (h.qs i q hq') gr fun g hg e => (hs g (by simp [blks, hg])).2 e

theorem OwnK.nil (T : TypeId) (w : World) (B : Nat) : OwnK T w B (.slice none 0 0) 0 [] [] :=
  ⟨rfl, rfl, World.ownsRow_nil _ _ _ _, fun i p hp => by simp at hp, fun i p hp => by simp at hp, by simp [Value.ownBlock]⟩

theorem apart_pair {v : Value} {vs : List (Value × Value)} {k : Nat} {p p' : Value × Value} {H : Nat} (h : (v.ownBlock.toList ++ vs.flatMap blks).Nodup) (hp : vs[k]? = some p) (hv : ∀ g, v.ownBlock = some g → g < H) (ho : ∀ (i : Nat) (q : Value × Value), vs[i]? = some q → ∀ g ∈ blks q, g < H) (hn : (blks p').Nodup) (hf : ∀ g ∈ blks p', g ∈ blks p ∨ H ≤ g) : (v.ownBlock.toList ++ (vs.set k p').flatMap blks).Nodup := by
  obtain ⟨e1, e2⟩ := flat_split hp p'
  have h0 := h
  rw [e1, ← List.append_assoc] at h
  rw [e2, ← List.append_assoc]
  refine nodup_swap h hn fun g hg => ⟨fun hA => ?_, fun hC => ?_⟩
  · rcases hf g hg with hgp | hgH
    · simp only [List.nodup_append, List.mem_append] at h
      rw [List.mem_append] at hA
      exact h.2.2 g hA g (.inl hgp) rfl
    · rw [List.mem_append] at hA
      rcases hA with hA | hA
      · have := hv g (by simpa using hA); omega
      · obtain ⟨i, q, hq, hgq⟩ := flat_mem hA
        have hq' : vs[i]? = some q := by
          rw [List.getElem?_take] at hq
          split at hq
          · exact hq
          · cases hq
        have := ho i q hq' g hgq; omega
  · rcases hf g hg with hgp | hgH
    · simp only [List.nodup_append, List.mem_append] at h
      exact h.2.1.2.2 g hgp g hC rfl
    · obtain ⟨i, q, hq, hgq⟩ := flat_mem hC
      rw [List.getElem?_drop] at hq
      have := ho _ q hq g hgq; omega

/-- One list of a lock has a new place: in the row its cell is set. -/
theorem OwnK.swap {T : TypeId} {w w' : World} {B n o cap : Nat} {ls : List Ch.Lock} {vs : List (Value × Value)} (h : OwnK T w B (.slice (some ⟨o, 0, none⟩) n cap) n ls vs) {k : Nat} {p : Value × Value} (hp : vs[k]? = some p) {row : Option Nat} (gr : w.grownBy w' row) (hrow : ∀ g, row = some g → g ∈ blks p) {l : Ch.Lock} (hr : l.r = (Ch.lkAt ls k).r) {x y : Value} {j : Nat} {z : Value}
    (hx : w'.ownsRow B 131 2 x l.hs.length (hcells l.hs)) (hy : w'.ownsRow B 131 2 y l.qs.length (hcells l.qs)) (hxy : ∀ g, x.ownBlock = some g → y.ownBlock ≠ some g) (hf : ∀ g ∈ blks (x, y), g ∈ blks p ∨ w.heap.size ≤ g)
    (hj : (j = 1 ∧ z = x ∧ y = p.2) ∨ (j = 2 ∧ z = y ∧ x = p.1)) :
    OwnK T (w'.setCell ⟨o, k * 3 + j, none⟩ z) B (.slice (some ⟨o, 0, none⟩) n cap) n (ls.set k l) (vs.set k (x, y)) := by
  have hk := h.in hp
  have hkl : k < ls.length := by rw [h.len]; exact hk
  have hl : ls.length = vs.length := by rw [h.len, h.vlen]
  have hob := owns_lt h.row o rfl
  have hno : ∀ (i : Nat) (q : Value × Value), vs[i]? = some q → o ∉ blks q := fun i q hq => apart_row h.apart hq rfl
  have hrow' : w'.ownsRow B T 3 (.slice (some ⟨o, 0, none⟩) n cap) n (lcells ls vs) := owns_grown h.row gr fun g hg e => by
    have := hrow g e
    simp [Value.ownBlock] at hg
    subst hg
    exact hno k p hp this
  have hst := hrow'.stored (k * 3 + j) z
  have hat := lcells_at (ls := ls) hl hp
  have hcell : (lcells ls vs).set (k * 3 + j) z = lcells (ls.set k l) (vs.set k (x, y)) := by
    rw [← lcells_set k l x y hl hkl, hr, show (lcells ls vs).set (k * 3) (.int .i64 (Ch.lkAt ls k).r) = lcells ls vs from set_same hat.1]
    rcases hj with ⟨rfl, rfl, rfl⟩ | ⟨rfl, rfl, rfl⟩
    · exact (set_same (by rw [List.getElem?_set_ne (by omega)]; exact hat.2.2)).symm
    · rw [show (lcells ls vs).set (k * 3 + 1) p.1 = lcells ls vs from set_same hat.2.1]
  have hset : ∀ (i : Nat) (q : Value × Value), (vs.set k (x, y))[i]? = some q → (k = i ∧ q = (x, y)) ∨ (k ≠ i ∧ vs[i]? = some q) := by
    intro i q hq
    by_cases hik : k = i
    · subst hik
      rw [List.getElem?_set_self (by rw [h.vlen]; exact hk)] at hq
      cases hq
      exact .inl ⟨rfl, rfl⟩
    · rw [List.getElem?_set_ne hik] at hq
      exact .inr ⟨hik, hq⟩
  have hxo : ∀ g, x.ownBlock = some g → some o ≠ some g := fun g hg e => by
    cases e
    rcases hf o (by simp [blks, hg]) with h1 | h1
    · exact hno k p hp h1
    · omega
  have hyo : ∀ g, y.ownBlock = some g → some o ≠ some g := fun g hg e => by
    cases e
    rcases hf o (by simp [blks, hg]) with h1 | h1
    · exact hno k p hp h1
    · omega
  refine ⟨by simpa using h.len, by simpa using h.vlen, by rw [← hcell]; exact hst.1, fun i q hq => ?_, fun i q hq => ?_, ?_⟩
  · rw [lk_set ls k i l hkl]
    rcases hset i q hq with ⟨hik, rfl⟩ | ⟨hik, hq⟩
    · rw [if_pos hik]; exact owns_grown hx hst.2 hxo
    · rw [if_neg hik]
      refine owns_grown (owns_grown (h.hs i q hq) gr fun g hg e => ?_) hst.2 fun g hg e => ?_
      · exact apart_two h.apart (fun e => hik e.symm) hq hp (by simp [blks, hg]) (hrow g e)
      · cases e; exact hno i q hq (by simp [blks, hg])
  · rw [lk_set ls k i l hkl]
    rcases hset i q hq with ⟨hik, rfl⟩ | ⟨hik, hq⟩
    · rw [if_pos hik]; exact owns_grown hy hst.2 hyo
    · rw [if_neg hik]
      refine owns_grown (owns_grown (h.qs i q hq) gr fun g hg e => ?_) hst.2 fun g hg e => ?_
      · exact apart_two h.apart (fun e => hik e.symm) hq hp (by simp [blks, hg]) (hrow g e)
      · cases e; exact hno i q hq (by simp [blks, hg])
  · refine apart_pair h.apart hp (fun g hg => (owns_lt h.row g hg).2) (fun i q hq g hg => (h.bd hq hg).2) ?_ hf
    unfold blks
    rw [List.nodup_append]
    refine ⟨?_, ?_, ?_⟩
    · cases x.ownBlock <;> simp
    · cases y.ownBlock <;> simp
    · intro a ha b hb' e
      subst e
      exact hxy a (by simpa using ha) (by simpa using hb')

/-- Locks that are read, whose blocks lie from lo to hi. -/
def LkIn (lo hi : Nat) (w : World) (a : Option Addr) (n : Nat) (ls : List Ch.Lock) : Prop :=
  ls.length = n ∧ (0 < n → ∃ b off, a = some ⟨b, off, none⟩ ∧ lo ≤ b ∧ b < hi ∧ ∀ i, i < n → ∃ ah nh ch aq nq cq, LkOne w b (off + i * 3) ah nh ch aq nq cq (Ch.lkAt ls i) ∧
    (∀ g o, 0 < nh → ah = some ⟨g, o, none⟩ → lo ≤ g ∧ g < hi) ∧ (∀ g o, 0 < nq → aq = some ⟨g, o, none⟩ → lo ≤ g ∧ g < hi))
theorem LkIn.at {lo hi : Nat} {w : World} {a : Option Addr} {n : Nat} {ls : List Ch.Lock} (h : LkIn lo hi w a n ls) : LkAt w a n ls := by
  refine ⟨h.1, fun h0 => ?_⟩
  obtain ⟨b, off, ha, _, _, hi⟩ := h.2 h0
  refine ⟨b, off, ha, fun i hlt => ?_⟩
  obtain ⟨ah, nh, ch, aq, nq, cq, h1, _⟩ := hi i hlt
  exact ⟨ah, nh, ch, aq, nq, cq, h1⟩
theorem LkIn.below {lo hi : Nat} {w w' : World} {a : Option Addr} {n : Nat} {ls : List Ch.Lock} (h : LkIn lo hi w a n ls) (hb : Below w.heap.size w w') : LkIn lo hi w' a n ls := by
  refine ⟨h.1, fun h0 => ?_⟩
  obtain ⟨b, off, ha, h1, h2, hi⟩ := h.2 h0
  refine ⟨b, off, ha, h1, h2, fun i hlt => ?_⟩
  obtain ⟨ah, nh, ch, aq, nq, cq, h3, h4⟩ := hi i hlt
  exact ⟨ah, nh, ch, aq, nq, cq, h3.below hb, h4⟩
theorem cells_within {lo hi l' h' : Nat} {w w' : World} {a : Option Addr} {m : Nat} {xs : List Value} (h : CellsAt w a m xs) (hw : Within l' h' w w') (hb : ∀ g o, 0 < m → a = some ⟨g, o, none⟩ → lo ≤ g ∧ g < hi) (hd : hi ≤ l' ∨ h' ≤ lo) : CellsAt w' a m xs := by
  refine ⟨h.1, fun hm => ?_⟩
  obtain ⟨b, off, ha, hc⟩ := h.2 hm
  have hbb := hb b off hm ha
  refine ⟨b, off, ha, fun i hi => ?_⟩
  have := hc i hi
  have hx : xs[i]? = some (xs[i]'(by rw [h.1]; exact hi)) := by simp
  rw [hx] at this ⊢
  exact within_cell hw this (by omega)
theorem LkIn.within {lo hi l' h' : Nat} {w w' : World} {a : Option Addr} {n : Nat} {ls : List Ch.Lock} (h : LkIn lo hi w a n ls) (hw : Within l' h' w w') (hd : hi ≤ l' ∨ h' ≤ lo) : LkIn lo hi w' a n ls := by
  refine ⟨h.1, fun h0 => ?_⟩
  obtain ⟨b, off, ha, h1, h2, hi'⟩ := h.2 h0
  refine ⟨b, off, ha, h1, h2, fun i hlt => ?_⟩
  obtain ⟨ah, nh, ch, aq, nq, cq, ⟨c0, c1, c2, h3, h4, h5⟩, hA, hQ⟩ := hi' i hlt
  refine ⟨ah, nh, ch, aq, nq, cq, ⟨within_cell hw c0 (by omega), within_cell hw c1 (by omega), within_cell hw c2 (by omega), ?_, ?_, h5⟩, hA, hQ⟩
  · exact cells_within h3 hw (fun g o hm e => hA g o (by omega) e) hd
  · exact cells_within h4 hw (fun g o hm e => hQ g o (by omega) e) hd
theorem OwnK.lkIn {T : TypeId} {w : World} {B n cap : Nat} {a : Option Addr} {ls : List Ch.Lock} {vs : List (Value × Value)} (h : OwnK T w B (.slice a n cap) n ls vs) (hm : Ch.lkSize ls ≤ 1048579) : LkIn B w.heap.size w a n ls := by
  refine ⟨h.len, fun h0 => ?_⟩
  obtain ⟨o, rfl⟩ := h.rowAt h0
  have hob := owns_lt h.row o rfl
  have hc := owns_cells h.row
  obtain ⟨b, off, ha, hcc⟩ := hc.2 (by omega)
  simp only [Option.some.injEq, Addr.mk.injEq, and_true] at ha
  obtain ⟨rfl, rfl⟩ := ha
  refine ⟨o, 0, rfl, hob.1, hob.2, fun i hi => ?_⟩
  obtain ⟨p, hp⟩ := h.got hi
  have hl := lcells_at (by rw [h.len, h.vlen]) hp (ls := ls)
  have o1 := h.hs i p hp
  have o2 := h.qs i p hp
  obtain ⟨x, y⟩ := p
  obtain ⟨ah, ch, e1⟩ := owns_shape o1
  obtain ⟨aq, cq, e2⟩ := owns_shape o2
  simp only at e1 e2 o1 o2 hl
  subst e1 e2
  have hsz := Ch.lk_one hm i
  have hbk : ∀ {a : Option Addr} {m c : Nat} {xs : List Value}, w.ownsRow B 131 2 (.slice a m c) m xs → ∀ g o, 0 < m → a = some ⟨g, o, none⟩ → B ≤ g ∧ g < w.heap.size := by
    intro a m c xs ho g o hm e
    subst e
    rcases ho.2 with ⟨hv, h0⟩ | ⟨g', cp, cur, hv, _⟩
    · omega
    · have := owns_lt ho g' (by rw [hv]; rfl)
      simp only [Value.slice.injEq, Option.some.injEq, Addr.mk.injEq] at hv
      rw [hv.1.1]; exact this
  refine ⟨ah, _, ch, aq, _, cq, ⟨(hcc _ (by omega)).trans hl.1, ?_, ?_, owns_cells o1, owns_cells o2, by omega, by omega, owns_cap o1, owns_cap o2⟩, hbk o1, hbk o2⟩
  · rw [Nat.add_assoc]; exact (hcc _ (by omega)).trans hl.2.1
  · rw [Nat.add_assoc]; exact (hcc _ (by omega)).trans hl.2.2
end Go.Proofs.Ytjagobcogkdfhaa
