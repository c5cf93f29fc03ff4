
/- Locks of one's own: a row of three cells each, every list in a block of its own. -/
import Derived.Test.YtjagobcogkdfhaaLkB
namespace Go.Proofs.Ytjagobcogkdfhaa
open Go.RowKit

theorem owns_cap {w : World} {B : Nat} {e : TypeId} {size : Nat} {a : Option Addr} {n cap : Nat} {xs : List Value} (h : w.ownsRow B e size (.slice a n cap) n xs) : n ≤ cap := by
  rcases h.2 with ⟨hv, h0⟩ | ⟨g, cp, cur, hv, _, _, h1, _⟩
  · omega
  · simp only [Value.slice.injEq, true_and] at hv
    obtain ⟨_, rfl⟩ := hv
    exact h1

/-- The cells of locks whose lists lie at the values vs. -/
def lcells (ls : List Ch.Lock) (vs : List (Value × Value)) : List Value := (ls.zip vs).flatMap fun p => [.int .i64 p.1.r, p.2.1, p.2.2]
theorem lcells_len {ls : List Ch.Lock} {vs : List (Value × Value)} (h : ls.length = vs.length) : (lcells ls vs).length = ls.length * 3 := by
  induction ls generalizing vs with
  | nil => simp [lcells]
  | cons l ls ih =>
    cases vs with
    | nil => simp at h
    | cons v vs =>
      have := ih (vs := vs) (by simpa using h)
      simp only [lcells, List.zip_cons_cons, List.flatMap_cons, List.length_append, List.length_cons, List.length_nil] at *
      omega
theorem lcells_at {ls : List Ch.Lock} {vs : List (Value × Value)} {i : Nat} {p : Value × Value} (h : ls.length = vs.length) (hp : vs[i]? = some p) : (lcells ls vs)[i * 3]? = some (.int .i64 (Ch.lkAt ls i).r) ∧ (lcells ls vs)[i * 3 + 1]? = some p.1 ∧ (lcells ls vs)[i * 3 + 2]? = some p.2 := by
  induction ls generalizing vs i with
  | nil =>
    cases vs with
    | nil => simp at hp
    | cons v vs => simp at h
  | cons l ls ih =>
    cases vs with
    | nil => simp at h
    | cons v vs =>
      cases i with
      | zero =>
        simp at hp
        subst hp
        simp [lcells, Ch.lkAt]
      | succ i =>
        have := ih (vs := vs) (i := i) (by simpa using h) (by simpa using hp)
        simp only [lcells, List.zip_cons_cons, List.flatMap_cons, Ch.lkAt] at *
        rw [show (i + 1) * 3 = i * 3 + 1 + 1 + 1 by omega]
        simpa using this
theorem lcells_set {ls : List Ch.Lock} {vs : List (Value × Value)} (k : Nat) (l : Ch.Lock) (x y : Value) (h : ls.length = vs.length) (hk : k < ls.length) :
    (((lcells ls vs).set (k * 3) (.int .i64 l.r)).set (k * 3 + 1) x).set (k * 3 + 2) y = lcells (ls.set k l) (vs.set k (x, y)) := by
  induction ls generalizing vs k with
  | nil => simp at hk
  | cons q ls ih =>
    cases vs with
    | nil => simp at h
    | cons v vs =>
      cases k with
      | zero => simp [lcells]
      | succ k =>
        have := ih (vs := vs) k (by simpa using h) (by simpa using hk)
        simp only [lcells, List.set_cons_succ, List.zip_cons_cons, List.flatMap_cons] at *
        rw [← this, show (k + 1) * 3 = k * 3 + 1 + 1 + 1 by omega]
        simp
theorem lcells_append {ls ls' : List Ch.Lock} {vs vs' : List (Value × Value)} (h : ls.length = vs.length) : lcells (ls ++ ls') (vs ++ vs') = lcells ls vs ++ lcells ls' vs' := by
  unfold lcells
  rw [List.zip_append h]; simp

def blks (p : Value × Value) : List Nat := p.1.ownBlock.toList ++ p.2.ownBlock.toList

/-- Locks of one's own, their lists told. -/
structure OwnK (T : TypeId) (w : World) (B : Nat) (v : Value) (n : Nat) (ls : List Ch.Lock) (vs : List (Value × Value)) : Prop where
  len : ls.length = n
  vlen : vs.length = n
  row : w.ownsRow B T 3 v n (lcells ls vs)
  hs : ∀ i p, vs[i]? = some p → w.ownsRow B 131 2 p.1 (Ch.lkAt ls i).hs.length (hcells (Ch.lkAt ls i).hs)
  qs : ∀ i p, vs[i]? = some p → w.ownsRow B 131 2 p.2 (Ch.lkAt ls i).qs.length (hcells (Ch.lkAt ls i).qs)
  apart : (v.ownBlock.toList ++ vs.flatMap blks).Nodup
def OwnLk (T : TypeId) (w : World) (B : Nat) (v : Value) (n : Nat) (ls : List Ch.Lock) : Prop := ∃ vs, OwnK T w B v n ls vs

variable {T : TypeId} {w w' : World} {B n : Nat} {v : Value} {ls : List Ch.Lock} {vs : List (Value × Value)}
theorem OwnK.below (h : OwnK T w B v n ls vs) (hb : Below w.heap.size w w') : OwnK T w' B v n ls vs :=
  ⟨h.len, h.vlen, owns_below h.row hb, fun i p hp => owns_below (h.hs i p hp) hb, fun i p hp => owns_below (h.qs i p hp) hb, h.apart⟩
theorem OwnK.base {B' : Nat} (h : OwnK T w B v n ls vs) (hb : B' ≤ B) : OwnK T w B' v n ls vs :=
  ⟨h.len, h.vlen, owns_base h.row hb, fun i p hp => owns_base (h.hs i p hp) hb, fun i p hp => owns_base (h.qs i p hp) hb, h.apart⟩
theorem OwnLk.below (h : OwnLk T w B v n ls) (hb : Below w.heap.size w w') : OwnLk T w' B v n ls := by
  obtain ⟨vs, h⟩ := h; exact ⟨vs, h.below hb⟩
theorem OwnLk.base {B' : Nat} (h : OwnLk T w B v n ls) (hb : B' ≤ B) : OwnLk T w B' v n ls := by
  obtain ⟨vs, h⟩ := h; exact ⟨vs, h.base hb⟩
theorem OwnK.shape (h : OwnK T w B v n ls vs) : ∃ a cap, v = .slice a n cap := owns_shape h.row
theorem OwnLk.shape (h : OwnLk T w B v n ls) : ∃ a cap, v = .slice a n cap := by
  obtain ⟨vs, h⟩ := h; exact h.shape
theorem OwnK.got (h : OwnK T w B v n ls vs) {i : Nat} (hi : i < n) : ∃ p, vs[i]? = some p := ⟨vs[i]'(by rw [h.vlen]; exact hi), by simp⟩
theorem OwnK.in (h : OwnK T w B v n ls vs) {i : Nat} {p : Value × Value} (hp : vs[i]? = some p) : i < n := by
  rcases Nat.lt_or_ge i n with h1 | h1
  · exact h1
  · rw [List.getElem?_eq_none (by rw [h.vlen]; exact h1)] at hp; cases hp
theorem OwnK.bd (h : OwnK T w B v n ls vs) {i : Nat} {p : Value × Value} (hp : vs[i]? = some p) {g : Nat} (hg : g ∈ blks p) : B ≤ g ∧ g < w.heap.size := by
  unfold blks at hg
  simp only [List.mem_append, Option.mem_toList] at hg
  rcases hg with hg | hg
  · exact owns_lt (h.hs i p hp) g hg
  · exact owns_lt (h.qs i p hp) g hg
theorem OwnK.at {a : Option Addr} {cap : Nat} (h : OwnK T w B (.slice a n cap) n ls vs) (hm : Ch.lkSize ls ≤ 1048576) : LkAt w a n ls := by
  refine ⟨h.len, fun h0 => ?_⟩
  have hc := owns_cells h.row
  obtain ⟨b, off, ha, hcc⟩ := hc.2 (by omega)
  refine ⟨b, off, ha, fun i hi => ?_⟩
  obtain ⟨p, hp⟩ := h.got hi
  have hl := lcells_at (by rw [h.len, h.vlen]) hp (ls := ls)
  have o1 := h.hs i p hp
  have o2 := h.qs i p hp
  obtain ⟨x, y⟩ := p
  obtain ⟨ah, ch, e1⟩ := owns_shape o1
  obtain ⟨aq, cq, e2⟩ := owns_shape o2
  simp only at e1 e2 o1 o2 hl
  subst e1 e2
  have hsz := Ch.lk_one hm i
  refine ⟨ah, _, ch, aq, _, cq, (hcc _ (by omega)).trans hl.1, ?_, ?_, owns_cells o1, owns_cells o2, by omega, by omega, owns_cap o1, owns_cap o2⟩
  · rw [Nat.add_assoc]; exact (hcc _ (by omega)).trans hl.2.1
  · rw [Nat.add_assoc]; exact (hcc _ (by omega)).trans hl.2.2
theorem OwnLk.at {a : Option Addr} {cap : Nat} (h : OwnLk T w B (.slice a n cap) n ls) (hm : Ch.lkSize ls ≤ 1048576) : LkAt w a n ls := by
  obtain ⟨vs, h⟩ := h; exact h.at hm
theorem OwnLk.len (h : OwnLk T w B v n ls) : ls.length = n := by obtain ⟨vs, h⟩ := h; exact h.len
theorem OwnLk.cap {a : Option Addr} {cap : Nat} (h : OwnLk T w B (.slice a n cap) n ls) : n ≤ cap := by obtain ⟨vs, h⟩ := h; exact owns_cap h.row

theorem nodup_swap {A P C P' : List Nat} (h : (A ++ (P ++ C)).Nodup) (hp : P'.Nodup) (hd : ∀ g ∈ P', g ∉ A ∧ g ∉ C) : (A ++ (P' ++ C)).Nodup := by
  simp only [List.nodup_append, List.mem_append] at *
  obtain ⟨hA, ⟨_, hC, _⟩, hAP⟩ := h
  refine ⟨hA, ⟨hp, hC, fun a ha b hb e => (hd a ha).2 (e ▸ hb)⟩, fun a ha b hb e => ?_⟩
  rcases hb with hb | hb
  · exact (hd b hb).1 (e ▸ ha)
  · exact hAP a ha b (.inr hb) e
theorem flat_split {vs : List (Value × Value)} {k : Nat} {p : Value × Value} (hp : vs[k]? = some p) (p' : Value × Value) :
    vs.flatMap blks = (vs.take k).flatMap blks ++ (blks p ++ (vs.drop (k + 1)).flatMap blks) ∧ (vs.set k p').flatMap blks = (vs.take k).flatMap blks ++ (blks p' ++ (vs.drop (k + 1)).flatMap blks) := by
  have hk : k < vs.length := (List.getElem?_eq_some_iff.1 hp).1
  have hpk : vs[k] = p := by simpa [List.getElem?_eq_getElem hk] using hp
  constructor
  · conv => lhs; rw [← List.take_append_drop k vs]
    rw [List.drop_eq_getElem_cons hk, hpk]; simp
  · rw [List.set_eq_take_append_cons_drop, if_pos hk]; simp
theorem flat_mem {vs : List (Value × Value)} {g : Nat} (h : g ∈ vs.flatMap blks) : ∃ (i : Nat) (p : Value × Value), vs[i]? = some p ∧ g ∈ blks p := by
  rw [List.mem_flatMap] at h
  obtain ⟨p, hp, hg⟩ := h
  obtain ⟨i, hi, rfl⟩ := List.getElem_of_mem hp
  exact ⟨i, _, by simp [hi], hg⟩
/-- One lock's lists change place: the new blocks are newer than all others. -/
theorem apart_set {k : Nat} {p p' : Value × Value} {H : Nat} (h : (v.ownBlock.toList ++ vs.flatMap blks).Nodup) (hp : vs[k]? = some p) (hv : ∀ g, v.ownBlock = some g → g < H) (ho : ∀ (i : Nat) (q : Value × Value), vs[i]? = some q → ∀ g ∈ blks q, g < H) (hn : (blks p').Nodup) (hf : ∀ g ∈ blks p', H ≤ g) : (v.ownBlock.toList ++ (vs.set k p').flatMap blks).Nodup := by
  obtain ⟨e1, e2⟩ := flat_split hp p'
  rw [e1, ← List.append_assoc] at h
  rw [e2, ← List.append_assoc]
  refine nodup_swap h hn fun g hg => ⟨fun hA => ?_, fun hC => ?_⟩
  · rw [List.mem_append] at hA
    rcases hA with hA | hA
    · have := hv g (by simpa using hA); have := hf g hg; omega
    · obtain ⟨i, q, hq, hgq⟩ := flat_mem hA
      have hq' : vs[i]? = some q := by
        rw [List.getElem?_take] at hq
        split at hq
        · exact hq
        · cases hq
      have := ho i q hq' g hgq; have := hf g hg; omega
  · obtain ⟨i, q, hq, hgq⟩ := flat_mem hC
    rw [List.getElem?_drop] at hq
    have := ho _ q hq g hgq; have := hf g hg; omega
/-- What apart says of one list and of the row. -/
theorem apart_row (h : (v.ownBlock.toList ++ vs.flatMap blks).Nodup) {i : Nat} {p : Value × Value} (hp : vs[i]? = some p) {g : Nat} (hv : v.ownBlock = some g) : g ∉ blks p := by
  rw [List.nodup_append] at h
  intro hg
  exact h.2.2 g (by simp [hv]) g (List.mem_flatMap.2 ⟨p, List.mem_of_getElem? hp, hg⟩) rfl
theorem flat_nodup {vs : List (Value × Value)} (h : (vs.flatMap blks).Nodup) {i j : Nat} {p q : Value × Value} (hij : i < j) (hp : vs[i]? = some p) (hq : vs[j]? = some q) {g : Nat} (hg : g ∈ blks p) : g ∉ blks q := by
  have e := (flat_split hp p).1
  rw [e] at h
  simp only [List.nodup_append, List.mem_append] at h
  intro hgq
  refine h.2.1.2.2 g hg g ?_ rfl
  rw [List.mem_flatMap]
  refine ⟨q, ?_, hgq⟩
  refine List.mem_of_getElem? (i := j - (i + 1)) ?_
  rw [List.getElem?_drop, ← hq]
  congr 1; omega
theorem apart_two (h : (v.ownBlock.toList ++ vs.flatMap blks).Nodup) {i j : Nat} {p q : Value × Value} (hij : i ≠ j) (hp : vs[i]? = some p) (hq : vs[j]? = some q) {g : Nat} (hg : g ∈ blks p) : g ∉ blks q := by
  have h2 := (List.nodup_append.1 h).2.1
  rcases Nat.lt_or_gt_of_ne hij with h1 | h1
  · exact flat_nodup h2 h1 hp hq hg
  · exact fun hgq => flat_nodup h2 h1 hq hp hgq hg
theorem apart_one (h : (v.ownBlock.toList ++ vs.flatMap blks).Nodup) {i : Nat} {p : Value × Value} (hp : vs[i]? = some p) {g : Nat} (h1 : p.1.ownBlock = some g) : p.2.ownBlock ≠ some g := by
  have e := (flat_split hp p).1
  rw [e] at h
  simp only [List.nodup_append, blks] at h
  intro h2
  exact h.2.1.2.1.1.2.2 g (by simp [h1]) g (by simp [h2]) rfl

theorem owns_stored3' {w : World} {base : Nat} {e : TypeId} {size g n cap : Nat} {xs : List Value} (h : w.ownsRow base e size (.slice (some ⟨g, 0, none⟩) n cap) n xs) (j : Nat) (a b c : Value) :
    w.grownBy (((w.setCell ⟨g, j, none⟩ a).setCell ⟨g, j + 1, none⟩ b).setCell ⟨g, j + 2, none⟩ c) (some g) :=
  gr_trans (gr_trans (h.stored j a).2 ((h.stored j a).1.stored (j + 1) b).2) (((h.stored j a).1.stored (j + 1) b).1.stored (j + 2) c).2
theorem lk_set (ls : List Ch.Lock) (k i : Nat) (l : Ch.Lock) (hk : k < ls.length) : Ch.lkAt (ls.set k l) i = if k = i then l else Ch.lkAt ls i := by
  unfold Ch.lkAt
  split
  · next h => subst h; simp [List.getD, hk]
  · next h => simp [List.getD, h]

/-- A lock is put: its lists are newer than all else. -/
theorem OwnK.put {w0 : World} {o cap k : Nat} {x y : Value} {l : Ch.Lock} (h : OwnK T w0 B (.slice (some ⟨o, 0, none⟩) n cap) n ls vs) (hb : Below w0.heap.size w0 w)
    (hx : w.ownsRow w0.heap.size 131 2 x l.hs.length (hcells l.hs)) (hy : w.ownsRow w0.heap.size 131 2 y l.qs.length (hcells l.qs)) (hxy : ∀ g, x.ownBlock = some g → y.ownBlock ≠ some g) (hk : k < n) (hB : B ≤ w0.heap.size) :
    OwnK T (((w.setCell ⟨o, k * 3, none⟩ (.int .i64 l.r)).setCell ⟨o, k * 3 + 1, none⟩ x).setCell ⟨o, k * 3 + 2, none⟩ y) B (.slice (some ⟨o, 0, none⟩) n cap) n (ls.set k l) (vs.set k (x, y)) := by
  obtain ⟨p, hp⟩ := h.got hk
  have hr := owns_below h.row hb
  have gr := owns_stored3' hr (k * 3) (.int .i64 l.r) x y
  have hkl : k < ls.length := by rw [h.len]; exact hk
  have hol := owns_lt h.row o rfl
  have fresh : ∀ g ∈ blks (x, y), w0.heap.size ≤ g := by
    intro g hg
    unfold blks at hg
    simp only [List.mem_append, Option.mem_toList] at hg
    rcases hg with hg | hg
    · exact (owns_lt hx g hg).1
    · exact (owns_lt hy g hg).1
  have hset : ∀ i q, (vs.set k (x, y))[i]? = some q → (k = i ∧ q = (x, y)) ∨ (k ≠ i ∧ vs[i]? = some q) := by
    intro i q hq
    by_cases hik : k = i
    · subst hik
      rw [List.getElem?_set_self (by rw [h.vlen]; exact hk)] at hq
      cases hq
      exact .inl ⟨rfl, rfl⟩
    · rw [List.getElem?_set_ne hik] at hq
      exact .inr ⟨hik, hq⟩
  refine ⟨by simpa using h.len, by simpa using h.vlen, ?_, fun i q hq => ?_, fun i q hq => ?_, ?_⟩
  · rw [← lcells_set k l x y (by rw [h.len, h.vlen]) hkl]
    exact owns_stored3 hr _ _ _ _
  · rw [lk_set ls k i l hkl]
    rcases hset i q hq with ⟨hik, rfl⟩ | ⟨hik, hq⟩
    · rw [if_pos hik]
      refine owns_base (owns_grown hx gr fun g hg he => ?_) hB
      have := (owns_lt hx g hg).1
      simp at he
      omega
    · rw [if_neg hik]
      refine owns_grown (owns_below (h.hs i q hq) hb) gr fun g hg he => ?_
      simp at he
      subst he
      exact apart_row h.apart hq rfl (by simp [blks, hg])
  · rw [lk_set ls k i l hkl]
    rcases hset i q hq with ⟨hik, rfl⟩ | ⟨hik, hq⟩
    · rw [if_pos hik]
      refine owns_base (owns_grown hy gr fun g hg he => ?_) hB
      have := (owns_lt hy g hg).1
      simp at he
      omega
    · rw [if_neg hik]
      refine owns_grown (owns_below (h.qs i q hq) hb) gr fun g hg he => ?_
      simp at he
      subst he
      exact apart_row h.apart hq rfl (by simp [blks, hg])
  · refine apart_set h.apart hp (fun g hg => (owns_lt h.row g hg).2) (fun i q hq g hg => (h.bd hq hg).2) ?_ fresh
    unfold blks
    rw [List.nodup_append]
    refine ⟨?_, ?_, ?_⟩
    · cases x.ownBlock <;> simp
    · cases y.ownBlock <;> simp
    · intro a ha b hb' e
      subst e
      exact hxy a (by simpa using ha) (by simpa using hb')
theorem OwnLk.put {w0 : World} {o cap k : Nat} {x y : Value} {l : Ch.Lock} (h : OwnLk T w0 B (.slice (some ⟨o, 0, none⟩) n cap) n ls) (hb : Below w0.heap.size w0 w)
    (hx : w.ownsRow w0.heap.size 131 2 x l.hs.length (hcells l.hs)) (hy : w.ownsRow w0.heap.size 131 2 y l.qs.length (hcells l.qs)) (hxy : ∀ g, x.ownBlock = some g → y.ownBlock ≠ some g) (hk : k < n) (hB : B ≤ w0.heap.size) :
    OwnLk T (((w.setCell ⟨o, k * 3, none⟩ (.int .i64 l.r)).setCell ⟨o, k * 3 + 1, none⟩ x).setCell ⟨o, k * 3 + 2, none⟩ y) B (.slice (some ⟨o, 0, none⟩) n cap) n (ls.set k l) := by
  obtain ⟨vs, h⟩ := h
  exact ⟨_, h.put hb hx hy hxy hk hB⟩
end Go.Proofs.Ytjagobcogkdfhaa
