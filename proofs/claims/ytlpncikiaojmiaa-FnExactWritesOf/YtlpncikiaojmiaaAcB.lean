/- Acts in memory: six cells each, the last one a list of numbers. -/
import Derived.Test.YtlpncikiaojmiaaWth
import Derived.Test.YtlpncikiaojmiaaAcM
import Derived.Test.YtlpncikiaojmiaaLkN
namespace Go.Proofs.Ytlpncikiaojmiaa
open Go.RowKit

/-- One act that is read. -/
def AcOne (w : World) (b off : Nat) (an : Option Addr) (nn cn : Nat) (t : Ch.Ac) : Prop :=
  w.cell? ⟨b, off, none⟩ = some (.int .i64 t.tx) ∧ w.cell? ⟨b, off + 1, none⟩ = some (.int .i64 t.k) ∧ w.cell? ⟨b, off + 2, none⟩ = some (.int .i64 t.a) ∧ w.cell? ⟨b, off + 3, none⟩ = some (.int .i64 t.b) ∧ w.cell? ⟨b, off + 4, none⟩ = some (.int .i64 t.v) ∧ w.cell? ⟨b, off + 5, none⟩ = some (.slice an nn cn) ∧
    CellsAt w an (nn * 1) (icells t.an) ∧ nn ≤ 9223372036854775807
theorem AcOne.below {w w' : World} {b off : Nat} {an : Option Addr} {nn cn : Nat} {t : Ch.Ac} (h : AcOne w b off an nn cn t) (hb : Below w.heap.size w w') : AcOne w' b off an nn cn t := by
  obtain ⟨h0, h1, h2, h3, h4, h5, h6, h7⟩ := h
  exact ⟨keep_cell hb h0, keep_cell hb h1, keep_cell hb h2, keep_cell hb h3, keep_cell hb h4, keep_cell hb h5, h6.below hb, h7⟩
/-- Acts that are read. -/
def AcAt (w : World) (a : Option Addr) (n : Nat) (ts : List Ch.Ac) : Prop :=
  ts.length = n ∧ (0 < n → ∃ b off, a = some ⟨b, off, none⟩ ∧ ∀ i, i < n → ∃ au nu cu, AcOne w b (off + i * 6) au nu cu (Ch.acAt ts i))
theorem AcAt.below {w w' : World} {a : Option Addr} {n : Nat} {ts : List Ch.Ac} (h : AcAt w a n ts) (hb : Below w.heap.size w w') : AcAt w' a n ts := by
  refine ⟨h.1, fun h0 => ?_⟩
  obtain ⟨b, off, ha, hi⟩ := h.2 h0
  refine ⟨b, off, ha, fun i hlt => ?_⟩
  obtain ⟨au, nu, cu, h1⟩ := hi i hlt
  exact ⟨au, nu, cu, h1.below hb⟩
theorem AcAt.act {w : World} {a : Option Addr} {n : Nat} {ts : List Ch.Ac} (h : AcAt w a n ts) {k : Nat} (hk : k < n) : ∃ b off an nn cn, a = some ⟨b, off, none⟩ ∧ AcOne w b (off + k * 6) an nn cn (Ch.acAt ts k) := by
  obtain ⟨b, off, ha, hi⟩ := h.2 (by omega)
  obtain ⟨au, nu, cu, h1⟩ := hi k hk
  exact ⟨b, off, au, nu, cu, ha, h1⟩
theorem AcAt.len {w : World} {a : Option Addr} {n : Nat} {ts : List Ch.Ac} (h : AcAt w a n ts) : Hid (n = ts.length) := h.1.symm

/-- The cells of an act. -/
def ac6 (t : Ch.Ac) (x : Value) (j : Nat) : Value := match j with
  | 0 => .int .i64 t.tx
  | 1 => .int .i64 t.k
  | 2 => .int .i64 t.a
  | 3 => .int .i64 t.b
  | 4 => .int .i64 t.v
  | _ => x
/-- Acts of one's own: each Answer in a block of its own. -/
def OwnAc (w : World) (B : Nat) (v : Value) (n : Nat) (vs : List Value) (ts : List Ch.Ac) : Prop :=
  ts.length = n ∧ vs.length = n ∧ (∃ cs : List Value, w.ownsRow B 68 6 v n cs ∧ ∀ i j, i < n → j < 6 → cs[i * 6 + j]? = some (ac6 (Ch.acAt ts i) (vs.getD i (.slice none 0 0)) j)) ∧
    (∀ i, i < n → ∃ x, vs[i]? = some x ∧ w.ownsRow B 2 1 x (Ch.acAt ts i).an.length (icells (Ch.acAt ts i).an)) ∧
    (∀ (i j : Nat) (x y : Value) (g : Nat), i < j → vs[i]? = some x → vs[j]? = some y → x.ownBlock = some g → y.ownBlock ≠ some g) ∧
    (∀ (i : Nat) (x : Value) (g : Nat), vs[i]? = some x → v.ownBlock = some g → x.ownBlock ≠ some g)

theorem OwnAc.below {w w' : World} {B : Nat} {v : Value} {n : Nat} {vs : List Value} {ts : List Ch.Ac} (h : OwnAc w B v n vs ts) (hb : Below w.heap.size w w') : OwnAc w' B v n vs ts := by
  obtain ⟨hl, hvl, ⟨cs, ho, hcs⟩, hi, hd, hd'⟩ := h
  refine ⟨hl, hvl, ⟨cs, owns_below ho hb, hcs⟩, fun i hlt => ?_, hd, hd'⟩
  obtain ⟨x, h1, h2⟩ := hi i hlt
  exact ⟨x, h1, owns_below h2 hb⟩
theorem OwnAc.lt {w : World} {B n : Nat} {v : Value} {vs : List Value} {ts : List Ch.Ac} (h : OwnAc w B v n vs ts) : ∀ (i : Nat) (x : Value) (g : Nat), vs[i]? = some x → x.ownBlock = some g → B ≤ g ∧ g < w.heap.size := by
  intro i x g hx hg
  obtain ⟨hl, hvl, ho, hi, hd, hd'⟩ := h
  have hin : i < n := by
    rcases Nat.lt_or_ge i n with h | h
    · exact h
    · rw [List.getElem?_eq_none (by omega)] at hx; cases hx
  obtain ⟨y, h1, h2⟩ := hi i hin
  rw [hx] at h1; cases h1
  exact owns_lt h2 g hg
theorem OwnAc.lt0 {w : World} {B n : Nat} {v : Value} {vs : List Value} {ts : List Ch.Ac} (h : OwnAc w B v n vs ts) (g : Nat) (hg : v.ownBlock = some g) : B ≤ g ∧ g < w.heap.size := by
  obtain ⟨hl, hvl, ⟨cs, ho, hcs⟩, _⟩ := h
  exact owns_lt ho g hg

/-- Six cells in a row are written. -/
theorem set6 {cs : List Value} {n k : Nat} (hk : k < n) (hl : cs.length = n * 6) (a0 a1 a2 a3 a4 a5 : Value) (i j : Nat) (hj : j < 6) :
    ((((((cs.set (k * 6) a0).set (k * 6 + 1) a1).set (k * 6 + 2) a2).set (k * 6 + 3) a3).set (k * 6 + 4) a4).set (k * 6 + 5) a5)[i * 6 + j]? =
      if k = i then some (match j with | 0 => a0 | 1 => a1 | 2 => a2 | 3 => a3 | 4 => a4 | _ => a5) else cs[i * 6 + j]? := by
  by_cases hik : k = i
  · subst hik
    rw [if_pos rfl]
    match j, hj with
    | 0, _ => simp [List.getElem?_set]; omega
    | 1, _ => simp [List.getElem?_set]; omega
    | 2, _ => simp [List.getElem?_set]; omega
    | 3, _ => simp [List.getElem?_set]; omega
    | 4, _ => simp [List.getElem?_set]; omega
    | 5, _ => simp [List.getElem?_set]; omega
  · rw [if_neg hik]
    rw [List.getElem?_set_ne (by omega), List.getElem?_set_ne (by omega), List.getElem?_set_ne (by omega), List.getElem?_set_ne (by omega), List.getElem?_set_ne (by omega), List.getElem?_set_ne (by omega)]

theorem owns_stored6 {w : World} {base : Nat} {e : TypeId} {size g n cap : Nat} {xs : List Value} (h : w.ownsRow base e size (.slice (some ⟨g, 0, none⟩) n cap) n xs) (j : Nat) (v0 v1 v2 v3 v4 v5 : Value) :
    ((((((w.setCell ⟨g, j, none⟩ v0).setCell ⟨g, j + 1, none⟩ v1).setCell ⟨g, j + 2, none⟩ v2).setCell ⟨g, j + 3, none⟩ v3).setCell ⟨g, j + 4, none⟩ v4).setCell ⟨g, j + 5, none⟩ v5).ownsRow base e size (.slice (some ⟨g, 0, none⟩) n cap) n ((((((xs.set j v0).set (j + 1) v1).set (j + 2) v2).set (j + 3) v3).set (j + 4) v4).set (j + 5) v5) ∧
    w.grownBy ((((((w.setCell ⟨g, j, none⟩ v0).setCell ⟨g, j + 1, none⟩ v1).setCell ⟨g, j + 2, none⟩ v2).setCell ⟨g, j + 3, none⟩ v3).setCell ⟨g, j + 4, none⟩ v4).setCell ⟨g, j + 5, none⟩ v5) (some g) := by
  have s0 := h.stored j v0
  have s1 := s0.1.stored (j + 1) v1
  have s2 := s1.1.stored (j + 2) v2
  have s3 := s2.1.stored (j + 3) v3
  have s4 := s3.1.stored (j + 4) v4
  have s5 := s4.1.stored (j + 5) v5
  exact ⟨s5.1, gr_trans (gr_trans (gr_trans (gr_trans (gr_trans s0.2 s1.2) s2.2) s3.2) s4.2) s5.2⟩

theorem Ch.acAt_set (ts : List Ch.Ac) (k i : Nat) (t : Ch.Ac) (hk : k < ts.length) : Ch.acAt (ts.set k t) i = if k = i then t else Ch.acAt ts i := by
  unfold Ch.acAt
  by_cases h : k = i
  · subst h; simp [List.getD, hk]
  · simp [List.getD, h]

/-- An act is put: its Answer is newer than all else. -/
theorem OwnAc.put {w0 w : World} {B o n cap k : Nat} {ts : List Ch.Ac} {vs : List Value} {x : Value} {t : Ch.Ac} (h : OwnAc w0 B (.slice (some ⟨o, 0, none⟩) n cap) n vs ts) (hb : Below w0.heap.size w0 w)
    (hx : w.ownsRow w0.heap.size 2 1 x t.an.length (icells t.an)) (hk : k < n) (hB : B ≤ w0.heap.size) :
    OwnAc ((((((w.setCell ⟨o, k * 6, none⟩ (.int .i64 t.tx)).setCell ⟨o, k * 6 + 1, none⟩ (.int .i64 t.k)).setCell ⟨o, k * 6 + 2, none⟩ (.int .i64 t.a)).setCell ⟨o, k * 6 + 3, none⟩ (.int .i64 t.b)).setCell ⟨o, k * 6 + 4, none⟩ (.int .i64 t.v)).setCell ⟨o, k * 6 + 5, none⟩ x) B (.slice (some ⟨o, 0, none⟩) n cap) n (vs.set k x) (ts.set k t) := by
  have hlts := h.lt
  obtain ⟨hl, hvl, ⟨cs, ho, hcs⟩, hi, hd, hd'⟩ := h
  have ho1 := owns_below ho hb
  have hob := owns_bounds ho
  have hst := owns_stored6 ho1 (k * 6) (.int .i64 t.tx) (.int .i64 t.k) (.int .i64 t.a) (.int .i64 t.b) (.int .i64 t.v) x
  have fresh : ∀ g, x.ownBlock = some g → w0.heap.size ≤ g := fun g hg => (owns_lt hx g hg).1
  refine ⟨by simpa using hl, by simpa using hvl, ⟨_, hst.1, fun i j hin hj => ?_⟩, fun i hlt => ?_, ?_, ?_⟩
  · rw [set6 hk ho.1 _ _ _ _ _ _ i j hj, Ch.acAt_set ts k i t (by omega)]
    by_cases hik : k = i
    · subst hik
      rw [if_pos rfl, if_pos rfl]
      have : (vs.set k x).getD k (.slice none 0 0) = x := by simp [List.getD, hvl, hk]
      rw [this]
      match j, hj with
      | 0, _ => rfl
      | 1, _ => rfl
      | 2, _ => rfl
      | 3, _ => rfl
      | 4, _ => rfl
      | 5, _ => rfl
    · rw [if_neg hik, if_neg hik, hcs i j hin hj]
      simp [List.getD, hik]
  · rw [Ch.acAt_set ts k i t (by omega)]
    by_cases hik : k = i
    · subst hik
      rw [if_pos rfl]
      refine ⟨x, by simp [hvl, hk], ?_⟩
      refine owns_base (owns_grown hx hst.2 fun g hg he => ?_) hB
      have := fresh g hg
      simp at he
      omega
    · rw [if_neg hik]
      obtain ⟨y, h1, h2⟩ := hi i hlt
      refine ⟨y, by rw [List.getElem?_set_ne hik]; exact h1, ?_⟩
      refine owns_grown (owns_below h2 hb) hst.2 fun g hg he => ?_
      simp at he
      subst he
      exact hd' i y _ h1 rfl hg
  · intro i j y z g hij hy hz hyg hzg
    by_cases hik : k = i
    · subst hik
      rw [List.getElem?_set_ne (by omega)] at hz
      rw [List.getElem?_set_self (by omega)] at hy
      cases hy
      have := fresh g hyg
      have := (hlts j z g hz hzg).2
      omega
    · rw [List.getElem?_set_ne hik] at hy
      by_cases hjk : k = j
      · subst hjk
        rw [List.getElem?_set_self (by omega)] at hz
        cases hz
        have := fresh g hzg
        have := (hlts i y g hy hyg).2
        omega
      · rw [List.getElem?_set_ne hjk] at hz
        exact hd i j y z g hij hy hz hyg hzg
  · intro i y g hy hg hyg
    by_cases hik : k = i
    · subst hik
      rw [List.getElem?_set_self (by omega)] at hy
      cases hy
      have := fresh g hyg
      simp [Value.ownBlock] at hg
      omega
    · rw [List.getElem?_set_ne hik] at hy
      exact hd' i y g hy hg hyg

theorem OwnAc.at {w : World} {B : Nat} {a : Option Addr} {n cap : Nat} {vs : List Value} {ts : List Ch.Ac} (h : OwnAc w B (.slice a n cap) n vs ts) (hm : ∀ i, (Ch.acAt ts i).an.length ≤ 9223372036854775807) : AcAt w a n ts := by
  obtain ⟨hl, hvl, ⟨cs, ho, hcs⟩, hi, _⟩ := h
  have hc := owns_cells ho
  refine ⟨hl, fun h0 => ?_⟩
  obtain ⟨b, off, ha, hcc⟩ := hc.2 (by omega)
  refine ⟨b, off, ha, fun i hlt => ?_⟩
  obtain ⟨x, h1, h2⟩ := hi i hlt
  obtain ⟨ai, ci, rfl⟩ := owns_shape h2
  have e : vs.getD i (.slice none 0 0) = .slice ai (Ch.acAt ts i).an.length ci := by simp [List.getD, h1]
  have c := fun j (hj : j < 6) => (hcc (i * 6 + j) (by omega)).trans (hcs i j hlt hj)
  rw [e] at c
  simp only [← Nat.add_assoc] at c
  exact ⟨ai, _, ci, c 0 (by decide), c 1 (by decide), c 2 (by decide), c 3 (by decide), c 4 (by decide), c 5 (by decide), owns_cells h2, hm i⟩
end Go.Proofs.Ytlpncikiaojmiaa
