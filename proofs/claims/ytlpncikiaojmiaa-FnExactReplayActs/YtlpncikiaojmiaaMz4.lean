/- Several texts in one: AcB, OpW, OpI, OpF, AcF, TchW, StW. -/
import Derived.Test.YtlpncikiaojmiaaWth
import Derived.Test.YtlpncikiaojmiaaAcM
import Derived.Test.YtlpncikiaojmiaaMz0
import Derived.Test.YtlpncikiaojmiaaRowa
import Derived.Test.YtlpncikiaojmiaaOpM
import Derived.Test.YtlpncikiaojmiaaHTk
import Derived.Laws.StructEq
import Derived.Test.YtlpncikiaojmiaaRecW
import Derived.Test.YtlpncikiaojmiaaTchM
import Derived.Test.YtlpncikiaojmiaaStM

/- Acts in memory: six cells each, the last one a list of numbers. -/
namespace Go.Proofs.Ytlpncikiaojmiaa
open Go.RowKit

/-- One act that is read. -/
def AcOne (w : World) (b off : Nat) (an : Option Addr) (nn cn : Nat) (t : Ch.Ac) : Prop :=
  w.cell? ⟨b, off, none⟩ = some (.int .i64 t.tx) ∧ w.cell? ⟨b, off + 1, none⟩ = some (.int .i64 t.k) ∧ w.cell? ⟨b, off + 2, none⟩ = some (.int .i64 t.a) ∧ w.cell? ⟨b, off + 3, none⟩ = some (.int .i64 t.b) ∧ w.cell? ⟨b, off + 4, none⟩ = some (.int .i64 t.v) ∧ w.cell? ⟨b, off + 5, none⟩ = some (.slice an nn cn) ∧
    CellsAt w an (nn * 1) (icells t.an) ∧ nn ≤ 9223372036854775807
theorem AcOne.below {w w' : World} {b off : Nat} {an : Option Addr} {nn cn : Nat} {t : Ch.Ac} (h : AcOne w b off an nn cn t) (hb : Below w.heap.size w w') : AcOne w' b off an nn cn t := by
  obtain ⟨h0, h1, h2, h3, h4, h5, h6, h7⟩ := h
  exact ⟨keep_cell hb h0, keep_cell hb h1, keep_cell hb h2, keep_cell hb h3, keep_cell hb h4, keep_cell hb h5, h6.below hb, h7⟩
/-- Acts that are read. -/
def AcAt (w : World) (a : Option Addr) (n : Nat) (ts : List Ch.Ac) : Prop :=
  ts.length = n ∧ (0 < n → ∃ b off, a = some ⟨b, off, none⟩ ∧ ∀ i, i < n → ∃ au nu cu, AcOne w b (off + i * 6) au nu cu (Ch.acAt ts i))
theorem AcAt.below {w w' : World} {a : Option Addr} {n : Nat} {ts : List Ch.Ac} (h : AcAt w a n ts) (hb : Below w.heap.size w w') : AcAt w' a n ts := by
  refine ⟨h.1, fun h0 => ?_⟩
  obtain ⟨b, off, ha, hi⟩ := h.2 h0
  refine ⟨b, off, ha, fun i hlt => ?_⟩
  obtain ⟨au, nu, cu, h1⟩ := hi i hlt
  exact ⟨au, nu, cu, h1.below hb⟩
theorem AcAt.act {w : World} {a : Option Addr} {n : Nat} {ts : List Ch.Ac} (h : AcAt w a n ts) {k : Nat} (hk : k < n) : ∃ b off an nn cn, a = some ⟨b, off, none⟩ ∧ AcOne w b (off + k * 6) an nn cn (Ch.acAt ts k) := by
  obtain ⟨b, off, ha, hi⟩ := h.2 (by omega)
  obtain ⟨au, nu, cu, h1⟩ := hi k hk
  exact ⟨b, off, au, nu, cu, ha, h1⟩
theorem AcAt.len {w : World} {a : Option Addr} {n : Nat} {ts : List Ch.Ac} (h : AcAt w a n ts) : Hid (n = ts.length) := h.1.symm

/-- The cells of an act. -/
def ac6 (t : Ch.Ac) (x : Value) (j : Nat) : Value := match j with
  | 0 => .int .i64 t.tx
  | 1 => .int .i64 t.k
  | 2 => .int .i64 t.a
  | 3 => .int .i64 t.b
  | 4 => .int .i64 t.v
  | _ => x
/-- Acts of one's own: each Answer in a block of its own. -/
def OwnAc (w : World) (B : Nat) (v : Value) (n : Nat) (vs : List Value) (ts : List Ch.Ac) : Prop :=
  ts.length = n ∧ vs.length = n ∧ (∃ cs : List Value, w.ownsRow B 68 6 v n cs ∧ ∀ i j, i < n → j < 6 → cs[i * 6 + j]? = some (ac6 (Ch.acAt ts i) (vs.getD i (.slice none 0 0)) j)) ∧
    (∀ i, i < n → ∃ x, vs[i]? = some x ∧ w.ownsRow B 2 1 x (Ch.acAt ts i).an.length (icells (Ch.acAt ts i).an)) ∧
    (∀ (i j : Nat) (x y : Value) (g : Nat), i < j → vs[i]? = some x → vs[j]? = some y → x.ownBlock = some g → y.ownBlock ≠ some g) ∧
    (∀ (i : Nat) (x : Value) (g : Nat), vs[i]? = some x → v.ownBlock = some g → x.ownBlock ≠ some g)

theorem OwnAc.below {w w' : World} {B : Nat} {v : Value} {n : Nat} {vs : List Value} {ts : List Ch.Ac} (h : OwnAc w B v n vs ts) (hb : Below w.heap.size w w') : OwnAc w' B v n vs ts := by
  obtain ⟨hl, hvl, ⟨cs, ho, hcs⟩, hi, hd, hd'⟩ := h
  refine ⟨hl, hvl, ⟨cs, owns_below ho hb, hcs⟩, fun i hlt => ?_, hd, hd'⟩
  obtain ⟨x, h1, h2⟩ := hi i hlt
  exact ⟨x, h1, owns_below h2 hb⟩
theorem OwnAc.lt {w : World} {B n : Nat} {v : Value} {vs : List Value} {ts : List Ch.Ac} (h : OwnAc w B v n vs ts) : ∀ (i : Nat) (x : Value) (g : Nat), vs[i]? = some x → x.ownBlock = some g → B ≤ g ∧ g < w.heap.size := by
  intro i x g hx hg
  obtain ⟨hl, hvl, ho, hi, hd, hd'⟩ := h
  have hin : i < n := by
    rcases Nat.lt_or_ge i n with h | h
    · exact h
    · rw [List.getElem?_eq_none (by omega)] at hx; cases hx
  obtain ⟨y, h1, h2⟩ := hi i hin
  rw [hx] at h1; cases h1
  exact owns_lt h2 g hg
theorem OwnAc.lt0 {w : World} {B n : Nat} {v : Value} {vs : List Value} {ts : List Ch.Ac} (h : OwnAc w B v n vs ts) (g : Nat) (hg : v.ownBlock = some g) : B ≤ g ∧ g < w.heap.size := by
  obtain ⟨hl, hvl, ⟨cs, ho, hcs⟩, _⟩ := h
  exact owns_lt ho g hg

/-- Six cells in a row are written. -/
theorem set6 {cs : List Value} {n k : Nat} (hk : k < n) (hl : cs.length = n * 6) (a0 a1 a2 a3 a4 a5 : Value) (i j : Nat) (hj : j < 6) :
    ((((((cs.set (k * 6) a0).set (k * 6 + 1) a1).set (k * 6 + 2) a2).set (k * 6 + 3) a3).set (k * 6 + 4) a4).set (k * 6 + 5) a5)[i * 6 + j]? =
      if k = i then some (match j with | 0 => a0 | 1 => a1 | 2 => a2 | 3 => a3 | 4 => a4 | _ => a5) else cs[i * 6 + j]? := by
  by_cases hik : k = i
  · subst hik
    rw [if_pos rfl]
    match j, hj with
    | 0, _ => simp [List.getElem?_set]; omega
    | 1, _ => simp [List.getElem?_set]; omega
    | 2, _ => simp [List.getElem?_set]; omega
    | 3, _ => simp [List.getElem?_set]; omega
    | 4, _ => simp [List.getElem?_set]; omega
    | 5, _ => simp [List.getElem?_set]; omega
  · rw [if_neg hik]
    rw [List.getElem?_set_ne (by omega), List.getElem?_set_ne (by omega), List.getElem?_set_ne (by omega), List.getElem?_set_ne (by omega), List.getElem?_set_ne (by omega), List.getElem?_set_ne (by omega)]

theorem owns_stored6 {w : World} {base : Nat} {e : TypeId} {size g n cap : Nat} {xs : List Value} (h : w.ownsRow base e size (.slice (some ⟨g, 0, none⟩) n cap) n xs) (j : Nat) (v0 v1 v2 v3 v4 v5 : Value) :
    ((((((w.setCell ⟨g, j, none⟩ v0).setCell ⟨g, j + 1, none⟩ v1).setCell ⟨g, j + 2, none⟩ v2).setCell ⟨g, j + 3, none⟩ v3).setCell ⟨g, j + 4, none⟩ v4).setCell ⟨g, j + 5, none⟩ v5).ownsRow base e size (.slice (some ⟨g, 0, none⟩) n cap) n ((((((xs.set j v0).set (j + 1) v1).set (j + 2) v2).set (j + 3) v3).set (j + 4) v4).set (j + 5) v5) ∧
    w.grownBy ((((((w.setCell ⟨g, j, none⟩ v0).setCell ⟨g, j + 1, none⟩ v1).setCell ⟨g, j + 2, none⟩ v2).setCell ⟨g, j + 3, none⟩ v3).setCell ⟨g, j + 4, none⟩ v4).setCell ⟨g, j + 5, none⟩ v5) (some g) := by
  have s0 := h.stored j v0
  have s1 := s0.1.stored (j + 1) v1
  have s2 := s1.1.stored (j + 2) v2
  have s3 := s2.1.stored (j + 3) v3
  have s4 := s3.1.stored (j + 4) v4
  have s5 := s4.1.stored (j + 5) v5
  exact ⟨s5.1, gr_trans (gr_trans (gr_trans (gr_trans (gr_trans s0.2 s1.2) s2.2) s3.2) s4.2) s5.2⟩

theorem Ch.acAt_set (ts : List Ch.Ac) (k i : Nat) (t : Ch.Ac) (hk : k < ts.length) : Ch.acAt (ts.set k t) i = if k = i then t else Ch.acAt ts i := by
  unfold Ch.acAt
  by_cases h : k = i
  · subst h; simp [List.getD, hk]
  · simp [List.getD, h]

/-- An act is put: its Answer is newer than all else. -/
theorem OwnAc.put {w0 w : World} {B o n cap k : Nat} {ts : List Ch.Ac} {vs : List Value} {x : Value} {t : Ch.Ac} (h : OwnAc w0 B (.slice (some ⟨o, 0, none⟩) n cap) n vs ts) (hb : Below w0.heap.size w0 w)
    (hx : w.ownsRow w0.heap.size 2 1 x t.an.length (icells t.an)) (hk : k < n) (hB : B ≤ w0.heap.size) :
    OwnAc ((((((w.setCell ⟨o, k * 6, none⟩ (.int .i64 t.tx)).setCell ⟨o, k * 6 + 1, none⟩ (.int .i64 t.k)).setCell ⟨o, k * 6 + 2, none⟩ (.int .i64 t.a)).setCell ⟨o, k * 6 + 3, none⟩ (.int .i64 t.b)).setCell ⟨o, k * 6 + 4, none⟩ (.int .i64 t.v)).setCell ⟨o, k * 6 + 5, none⟩ x) B (.slice (some ⟨o, 0, none⟩) n cap) n (vs.set k x) (ts.set k t) := by
  have hlts := h.lt
  obtain ⟨hl, hvl, ⟨cs, ho, hcs⟩, hi, hd, hd'⟩ := h
  have ho1 := owns_below ho hb
  have hob := owns_bounds ho
  have hst := owns_stored6 ho1 (k * 6) (.int .i64 t.tx) (.int .i64 t.k) (.int .i64 t.a) (.int .i64 t.b) (.int .i64 t.v) x
  have fresh : ∀ g, x.ownBlock = some g → w0.heap.size ≤ g := fun g hg => (owns_lt hx g hg).1
  refine ⟨by simpa using hl, by simpa using hvl, ⟨_, hst.1, fun i j hin hj => ?_⟩, fun i hlt => ?_, ?_, ?_⟩
  · rw [set6 hk ho.1 _ _ _ _ _ _ i j hj, Ch.acAt_set ts k i t (by omega)]
    by_cases hik : k = i
    · subst hik
      rw [if_pos rfl, if_pos rfl]
      have : (vs.set k x).getD k (.slice none 0 0) = x := by simp [List.getD, hvl, hk]
      rw [this]
      match j, hj with
      | 0, _ => rfl
      | 1, _ => rfl
      | 2, _ => rfl
      | 3, _ => rfl
      | 4, _ => rfl
      | 5, _ => rfl
    · rw [if_neg hik, if_neg hik, hcs i j hin hj]
      simp [List.getD, hik]
  · rw [Ch.acAt_set ts k i t (by omega)]
    by_cases hik : k = i
    · subst hik
      rw [if_pos rfl]
      refine ⟨x, by simp [hvl, hk], ?_⟩
      refine owns_base (owns_grown hx hst.2 fun g hg he => ?_) hB
      have := fresh g hg
      simp at he
      omega
    · rw [if_neg hik]
      obtain ⟨y, h1, h2⟩ := hi i hlt
      refine ⟨y, by rw [List.getElem?_set_ne hik]; exact h1, ?_⟩
      refine owns_grown (owns_below h2 hb) hst.2 fun g hg he => ?_
      simp at he
      subst he
      exact hd' i y _ h1 rfl hg
  · intro i j y z g hij hy hz hyg hzg
    by_cases hik : k = i
    · subst hik
      rw [List.getElem?_set_ne (by omega)] at hz
      rw [List.getElem?_set_self (by omega)] at hy
      cases hy
      have := fresh g hyg
      have := (hlts j z g hz hzg).2
      omega
    · rw [List.getElem?_set_ne hik] at hy
      by_cases hjk : k = j
      · subst hjk
        rw [List.getElem?_set_self (by omega)] at hz
        cases hz
        have := fresh g hzg
        have := (hlts i y g hy hyg).2
        omega
      · rw [List.getElem?_set_ne hjk] at hz
        exact hd i j y z g hij hy hz hyg hzg
  · intro i y g hy hg hyg
    by_cases hik : k = i
    · subst hik
      rw [List.getElem?_set_self (by omega)] at hy
      cases hy
      have := fresh g hyg
      simp [Value.ownBlock] at hg
      omega
    · rw [List.getElem?_set_ne hik] at hy
      exact hd' i y g hy hg hyg

theorem OwnAc.at {w : World} {B : Nat} {a : Option Addr} {n cap : Nat} {vs : List Value} {ts : List Ch.Ac} (h : OwnAc w B (.slice a n cap) n vs ts) (hm : ∀ i, (Ch.acAt ts i).an.length ≤ 9223372036854775807) : AcAt w a n ts := by
  obtain ⟨hl, hvl, ⟨cs, ho, hcs⟩, hi, _⟩ := h
  have hc := owns_cells ho
  refine ⟨hl, fun h0 => ?_⟩
  obtain ⟨b, off, ha, hcc⟩ := hc.2 (by omega)
  refine ⟨b, off, ha, fun i hlt => ?_⟩
  obtain ⟨x, h1, h2⟩ := hi i hlt
  obtain ⟨ai, ci, rfl⟩ := owns_shape h2
  have e : vs.getD i (.slice none 0 0) = .slice ai (Ch.acAt ts i).an.length ci := by simp [List.getD, h1]
  have c := fun j (hj : j < 6) => (hcc (i * 6 + j) (by omega)).trans (hcs i j hlt hj)
  rw [e] at c
  simp only [← Nat.add_assoc] at c
  exact ⟨ai, _, ci, c 0 (by decide), c 1 (by decide), c 2 (by decide), c 3 (by decide), c 4 (by decide), c 5 (by decide), owns_cells h2, hm i⟩
end Go.Proofs.Ytlpncikiaojmiaa


/- OpFault of the model. -/
namespace Go.Proofs.Ytlpncikiaojmiaa
open Go.RowKit

theorem toOp_any (k a b v : Int) (w : World) :
    Calls Try.prog 26 #[.agg #[.int .i64 k, .int .i64 a, .int .i64 b, .int .i64 v]] w fun e w' => e = .returned (.agg #[.int .i64 k, .int .i64 a, .int .i64 b, .int .i64 v]) ∧ Below w.heap.size w w' := by
  go_enter Try.func26, Try.ntmps26
  go_wp2
  exact bodyPost_ret (v := .agg #[.int .i64 k, .int .i64 a, .int .i64 b, .int .i64 v]) (by simp [results, Try.results26, go_sem]) rfl
    ⟨rfl, (((Below.refl _ _).alloc (Nat.le_refl _) _).alloc (by simp) _).alloc (by simp; omega) _⟩

theorem Ch.op_none {k a b v : Int} (hk : Ch.inB k 1 10 = false) : Ch.opFault k a b v = 1 := by
  unfold Ch.opFault
  unfold Ch.inB at hk
  simp only [Bool.and_eq_false_iff, decide_eq_false_iff_not] at hk
  repeat rw [if_neg (by omega)]

set_option linter.unusedSimpArgs false in
set_option maxHeartbeats 1000000 in
theorem specOp_1_0 (a b v : Int) (ha : Ch.inB a 0 99 = false) (w : World) :
    Calls Try.prog 53 #[.agg #[.int .i64 1, .int .i64 a, .int .i64 b, .int .i64 v]] w fun e w' => e = .returned (.int .i64 3) ∧ Below w.heap.size w w' := by
  go_enter Try.func53, Try.ntmps53
  go_wp2_with (first | (go_at_call 78; refine (in_any _ _ _ _).mono ?_; rintro e w' ⟨rfl, rfl⟩) | (go_at_call 54; refine (key_any _ _).mono ?_; rintro e w' ⟨rfl, rfl⟩) | (go_at_call 79; refine (value_any _ _).mono ?_; rintro e w' ⟨rfl, rfl⟩))
  go_ret
  exact ⟨by simp, (Below.refl _ _).alloc (Nat.le_refl _) _⟩

set_option linter.unusedSimpArgs false in
set_option maxHeartbeats 1000000 in
theorem specOp_1_1 (a b v : Int) (ha : Ch.inB a 0 99 = true) (zb : (b != 0) = true) (w : World) :
    Calls Try.prog 53 #[.agg #[.int .i64 1, .int .i64 a, .int .i64 b, .int .i64 v]] w fun e w' => e = .returned (.int .i64 1) ∧ Below w.heap.size w w' := by
  go_enter Try.func53, Try.ntmps53
  go_wp2_with (first | (go_at_call 78; refine (in_any _ _ _ _).mono ?_; rintro e w' ⟨rfl, rfl⟩) | (go_at_call 54; refine (key_any _ _).mono ?_; rintro e w' ⟨rfl, rfl⟩) | (go_at_call 79; refine (value_any _ _).mono ?_; rintro e w' ⟨rfl, rfl⟩))
  go_ret
  exact ⟨by simp, (Below.refl _ _).alloc (Nat.le_refl _) _⟩

set_option linter.unusedSimpArgs false in
set_option maxHeartbeats 1000000 in
theorem specOp_1_2 (a v : Int) (ha : Ch.inB a 0 99 = true) (zv : (v != 0) = true) (w : World) :
    Calls Try.prog 53 #[.agg #[.int .i64 1, .int .i64 a, .int .i64 0, .int .i64 v]] w fun e w' => e = .returned (.int .i64 1) ∧ Below w.heap.size w w' := by
  go_enter Try.func53, Try.ntmps53
  go_wp2_with (first | (go_at_call 78; refine (in_any _ _ _ _).mono ?_; rintro e w' ⟨rfl, rfl⟩) | (go_at_call 54; refine (key_any _ _).mono ?_; rintro e w' ⟨rfl, rfl⟩) | (go_at_call 79; refine (value_any _ _).mono ?_; rintro e w' ⟨rfl, rfl⟩))
  go_ret
  exact ⟨by simp, (Below.refl _ _).alloc (Nat.le_refl _) _⟩

set_option linter.unusedSimpArgs false in
set_option maxHeartbeats 1000000 in
theorem specOp_1_3 (a : Int) (ha : Ch.inB a 0 99 = true) (w : World) :
    Calls Try.prog 53 #[.agg #[.int .i64 1, .int .i64 a, .int .i64 0, .int .i64 0]] w fun e w' => e = .returned (.int .i64 0) ∧ Below w.heap.size w w' := by
  go_enter Try.func53, Try.ntmps53
  go_wp2_with (first | (go_at_call 78; refine (in_any _ _ _ _).mono ?_; rintro e w' ⟨rfl, rfl⟩) | (go_at_call 54; refine (key_any _ _).mono ?_; rintro e w' ⟨rfl, rfl⟩) | (go_at_call 79; refine (value_any _ _).mono ?_; rintro e w' ⟨rfl, rfl⟩))
  go_ret
  exact ⟨by simp, (Below.refl _ _).alloc (Nat.le_refl _) _⟩

set_option linter.unusedSimpArgs false in
set_option maxHeartbeats 1000000 in
theorem specOp_2_0 (a b v : Int) (ha : Ch.inB a 0 99 = false) (w : World) :
    Calls Try.prog 53 #[.agg #[.int .i64 2, .int .i64 a, .int .i64 b, .int .i64 v]] w fun e w' => e = .returned (.int .i64 3) ∧ Below w.heap.size w w' := by
  go_enter Try.func53, Try.ntmps53
  go_wp2_with (first | (go_at_call 78; refine (in_any _ _ _ _).mono ?_; rintro e w' ⟨rfl, rfl⟩) | (go_at_call 54; refine (key_any _ _).mono ?_; rintro e w' ⟨rfl, rfl⟩) | (go_at_call 79; refine (value_any _ _).mono ?_; rintro e w' ⟨rfl, rfl⟩))
  go_ret
  exact ⟨by simp, (Below.refl _ _).alloc (Nat.le_refl _) _⟩

set_option linter.unusedSimpArgs false in
set_option maxHeartbeats 1000000 in
theorem specOp_2_1 (a b v : Int) (ha : Ch.inB a 0 99 = true) (hv : Ch.inB v 0 9999 = false) (w : World) :
    Calls Try.prog 53 #[.agg #[.int .i64 2, .int .i64 a, .int .i64 b, .int .i64 v]] w fun e w' => e = .returned (.int .i64 3) ∧ Below w.heap.size w w' := by
  go_enter Try.func53, Try.ntmps53
  go_wp2_with (first | (go_at_call 78; refine (in_any _ _ _ _).mono ?_; rintro e w' ⟨rfl, rfl⟩) | (go_at_call 54; refine (key_any _ _).mono ?_; rintro e w' ⟨rfl, rfl⟩) | (go_at_call 79; refine (value_any _ _).mono ?_; rintro e w' ⟨rfl, rfl⟩))
  go_ret
  exact ⟨by simp, (Below.refl _ _).alloc (Nat.le_refl _) _⟩

set_option linter.unusedSimpArgs false in
set_option maxHeartbeats 1000000 in
theorem specOp_2_2 (a b v : Int) (ha : Ch.inB a 0 99 = true) (hv : Ch.inB v 0 9999 = true) (zb : (b != 0) = true) (w : World) :
    Calls Try.prog 53 #[.agg #[.int .i64 2, .int .i64 a, .int .i64 b, .int .i64 v]] w fun e w' => e = .returned (.int .i64 1) ∧ Below w.heap.size w w' := by
  go_enter Try.func53, Try.ntmps53
  go_wp2_with (first | (go_at_call 78; refine (in_any _ _ _ _).mono ?_; rintro e w' ⟨rfl, rfl⟩) | (go_at_call 54; refine (key_any _ _).mono ?_; rintro e w' ⟨rfl, rfl⟩) | (go_at_call 79; refine (value_any _ _).mono ?_; rintro e w' ⟨rfl, rfl⟩))
  go_ret
  exact ⟨by simp, (Below.refl _ _).alloc (Nat.le_refl _) _⟩

set_option linter.unusedSimpArgs false in
set_option maxHeartbeats 1000000 in
theorem specOp_2_3 (a v : Int) (ha : Ch.inB a 0 99 = true) (hv : Ch.inB v 0 9999 = true) (w : World) :
    Calls Try.prog 53 #[.agg #[.int .i64 2, .int .i64 a, .int .i64 0, .int .i64 v]] w fun e w' => e = .returned (.int .i64 0) ∧ Below w.heap.size w w' := by
  go_enter Try.func53, Try.ntmps53
  go_wp2_with (first | (go_at_call 78; refine (in_any _ _ _ _).mono ?_; rintro e w' ⟨rfl, rfl⟩) | (go_at_call 54; refine (key_any _ _).mono ?_; rintro e w' ⟨rfl, rfl⟩) | (go_at_call 79; refine (value_any _ _).mono ?_; rintro e w' ⟨rfl, rfl⟩))
  go_ret
  exact ⟨by simp, (Below.refl _ _).alloc (Nat.le_refl _) _⟩

set_option linter.unusedSimpArgs false in
set_option maxHeartbeats 1000000 in
theorem specOp_3_0 (a b v : Int) (ha : Ch.inB a 0 99 = false) (w : World) :
    Calls Try.prog 53 #[.agg #[.int .i64 3, .int .i64 a, .int .i64 b, .int .i64 v]] w fun e w' => e = .returned (.int .i64 3) ∧ Below w.heap.size w w' := by
  go_enter Try.func53, Try.ntmps53
  go_wp2_with (first | (go_at_call 78; refine (in_any _ _ _ _).mono ?_; rintro e w' ⟨rfl, rfl⟩) | (go_at_call 54; refine (key_any _ _).mono ?_; rintro e w' ⟨rfl, rfl⟩) | (go_at_call 79; refine (value_any _ _).mono ?_; rintro e w' ⟨rfl, rfl⟩))
  go_ret
  exact ⟨by simp, (Below.refl _ _).alloc (Nat.le_refl _) _⟩

set_option linter.unusedSimpArgs false in
set_option maxHeartbeats 1000000 in
theorem specOp_3_1 (a b v : Int) (ha : Ch.inB a 0 99 = true) (zb : (b != 0) = true) (w : World) :
    Calls Try.prog 53 #[.agg #[.int .i64 3, .int .i64 a, .int .i64 b, .int .i64 v]] w fun e w' => e = .returned (.int .i64 1) ∧ Below w.heap.size w w' := by
  go_enter Try.func53, Try.ntmps53
  go_wp2_with (first | (go_at_call 78; refine (in_any _ _ _ _).mono ?_; rintro e w' ⟨rfl, rfl⟩) | (go_at_call 54; refine (key_any _ _).mono ?_; rintro e w' ⟨rfl, rfl⟩) | (go_at_call 79; refine (value_any _ _).mono ?_; rintro e w' ⟨rfl, rfl⟩))
  go_ret
  exact ⟨by simp, (Below.refl _ _).alloc (Nat.le_refl _) _⟩

set_option linter.unusedSimpArgs false in
set_option maxHeartbeats 1000000 in
theorem specOp_3_2 (a v : Int) (ha : Ch.inB a 0 99 = true) (zv : (v != 0) = true) (w : World) :
    Calls Try.prog 53 #[.agg #[.int .i64 3, .int .i64 a, .int .i64 0, .int .i64 v]] w fun e w' => e = .returned (.int .i64 1) ∧ Below w.heap.size w w' := by
  go_enter Try.func53, Try.ntmps53
  go_wp2_with (first | (go_at_call 78; refine (in_any _ _ _ _).mono ?_; rintro e w' ⟨rfl, rfl⟩) | (go_at_call 54; refine (key_any _ _).mono ?_; rintro e w' ⟨rfl, rfl⟩) | (go_at_call 79; refine (value_any _ _).mono ?_; rintro e w' ⟨rfl, rfl⟩))
  go_ret
  exact ⟨by simp, (Below.refl _ _).alloc (Nat.le_refl _) _⟩

set_option linter.unusedSimpArgs false in
set_option maxHeartbeats 1000000 in
theorem specOp_3_3 (a : Int) (ha : Ch.inB a 0 99 = true) (w : World) :
    Calls Try.prog 53 #[.agg #[.int .i64 3, .int .i64 a, .int .i64 0, .int .i64 0]] w fun e w' => e = .returned (.int .i64 0) ∧ Below w.heap.size w w' := by
  go_enter Try.func53, Try.ntmps53
  go_wp2_with (first | (go_at_call 78; refine (in_any _ _ _ _).mono ?_; rintro e w' ⟨rfl, rfl⟩) | (go_at_call 54; refine (key_any _ _).mono ?_; rintro e w' ⟨rfl, rfl⟩) | (go_at_call 79; refine (value_any _ _).mono ?_; rintro e w' ⟨rfl, rfl⟩))
  go_ret
  exact ⟨by simp, (Below.refl _ _).alloc (Nat.le_refl _) _⟩

set_option linter.unusedSimpArgs false in
set_option maxHeartbeats 1000000 in
theorem specOp_4_0 (a b v : Int) (ha : Ch.inB a 0 99 = false) (w : World) :
    Calls Try.prog 53 #[.agg #[.int .i64 4, .int .i64 a, .int .i64 b, .int .i64 v]] w fun e w' => e = .returned (.int .i64 3) ∧ Below w.heap.size w w' := by
  go_enter Try.func53, Try.ntmps53
  go_wp2_with (first | (go_at_call 78; refine (in_any _ _ _ _).mono ?_; rintro e w' ⟨rfl, rfl⟩) | (go_at_call 54; refine (key_any _ _).mono ?_; rintro e w' ⟨rfl, rfl⟩) | (go_at_call 79; refine (value_any _ _).mono ?_; rintro e w' ⟨rfl, rfl⟩))
  go_ret
  exact ⟨by simp, (Below.refl _ _).alloc (Nat.le_refl _) _⟩

set_option linter.unusedSimpArgs false in
set_option maxHeartbeats 1000000 in
theorem specOp_4_1 (a b v : Int) (ha : Ch.inB a 0 99 = true) (hb : Ch.inB b 0 99 = false) (w : World) :
    Calls Try.prog 53 #[.agg #[.int .i64 4, .int .i64 a, .int .i64 b, .int .i64 v]] w fun e w' => e = .returned (.int .i64 3) ∧ Below w.heap.size w w' := by
  go_enter Try.func53, Try.ntmps53
  go_wp2_with (first | (go_at_call 78; refine (in_any _ _ _ _).mono ?_; rintro e w' ⟨rfl, rfl⟩) | (go_at_call 54; refine (key_any _ _).mono ?_; rintro e w' ⟨rfl, rfl⟩) | (go_at_call 79; refine (value_any _ _).mono ?_; rintro e w' ⟨rfl, rfl⟩))
  go_ret
  exact ⟨by simp, (Below.refl _ _).alloc (Nat.le_refl _) _⟩

set_option linter.unusedSimpArgs false in
set_option maxHeartbeats 1000000 in
theorem specOp_4_2 (a b v : Int) (ha : Ch.inB a 0 99 = true) (hb : Ch.inB b 0 99 = true) (zv : (v != 0) = true) (w : World) :
    Calls Try.prog 53 #[.agg #[.int .i64 4, .int .i64 a, .int .i64 b, .int .i64 v]] w fun e w' => e = .returned (.int .i64 1) ∧ Below w.heap.size w w' := by
  go_enter Try.func53, Try.ntmps53
  go_wp2_with (first | (go_at_call 78; refine (in_any _ _ _ _).mono ?_; rintro e w' ⟨rfl, rfl⟩) | (go_at_call 54; refine (key_any _ _).mono ?_; rintro e w' ⟨rfl, rfl⟩) | (go_at_call 79; refine (value_any _ _).mono ?_; rintro e w' ⟨rfl, rfl⟩))
  go_ret
  exact ⟨by simp, (Below.refl _ _).alloc (Nat.le_refl _) _⟩

set_option linter.unusedSimpArgs false in
set_option maxHeartbeats 1000000 in
theorem specOp_4_3 (a b : Int) (ha : Ch.inB a 0 99 = true) (hb : Ch.inB b 0 99 = true) (w : World) :
    Calls Try.prog 53 #[.agg #[.int .i64 4, .int .i64 a, .int .i64 b, .int .i64 0]] w fun e w' => e = .returned (.int .i64 0) ∧ Below w.heap.size w w' := by
  go_enter Try.func53, Try.ntmps53
  go_wp2_with (first | (go_at_call 78; refine (in_any _ _ _ _).mono ?_; rintro e w' ⟨rfl, rfl⟩) | (go_at_call 54; refine (key_any _ _).mono ?_; rintro e w' ⟨rfl, rfl⟩) | (go_at_call 79; refine (value_any _ _).mono ?_; rintro e w' ⟨rfl, rfl⟩))
  go_ret
  exact ⟨by simp, (Below.refl _ _).alloc (Nat.le_refl _) _⟩

set_option linter.unusedSimpArgs false in
set_option maxHeartbeats 1000000 in
theorem specOp_5_0 (a b v : Int) (hv : Ch.inB v 0 9999 = false) (w : World) :
    Calls Try.prog 53 #[.agg #[.int .i64 5, .int .i64 a, .int .i64 b, .int .i64 v]] w fun e w' => e = .returned (.int .i64 3) ∧ Below w.heap.size w w' := by
  go_enter Try.func53, Try.ntmps53
  go_wp2_with (first | (go_at_call 78; refine (in_any _ _ _ _).mono ?_; rintro e w' ⟨rfl, rfl⟩) | (go_at_call 54; refine (key_any _ _).mono ?_; rintro e w' ⟨rfl, rfl⟩) | (go_at_call 79; refine (value_any _ _).mono ?_; rintro e w' ⟨rfl, rfl⟩))
  go_ret
  exact ⟨by simp, (Below.refl _ _).alloc (Nat.le_refl _) _⟩

set_option linter.unusedSimpArgs false in
set_option maxHeartbeats 1000000 in
theorem specOp_5_1 (a b v : Int) (hv : Ch.inB v 0 9999 = true) (za : (a != 0) = true) (w : World) :
    Calls Try.prog 53 #[.agg #[.int .i64 5, .int .i64 a, .int .i64 b, .int .i64 v]] w fun e w' => e = .returned (.int .i64 1) ∧ Below w.heap.size w w' := by
  go_enter Try.func53, Try.ntmps53
  go_wp2_with (first | (go_at_call 78; refine (in_any _ _ _ _).mono ?_; rintro e w' ⟨rfl, rfl⟩) | (go_at_call 54; refine (key_any _ _).mono ?_; rintro e w' ⟨rfl, rfl⟩) | (go_at_call 79; refine (value_any _ _).mono ?_; rintro e w' ⟨rfl, rfl⟩))
  go_ret
  exact ⟨by simp, (Below.refl _ _).alloc (Nat.le_refl _) _⟩

set_option linter.unusedSimpArgs false in
set_option maxHeartbeats 1000000 in
theorem specOp_5_2 (b v : Int) (hv : Ch.inB v 0 9999 = true) (zb : (b != 0) = true) (w : World) :
    Calls Try.prog 53 #[.agg #[.int .i64 5, .int .i64 0, .int .i64 b, .int .i64 v]] w fun e w' => e = .returned (.int .i64 1) ∧ Below w.heap.size w w' := by
  go_enter Try.func53, Try.ntmps53
  go_wp2_with (first | (go_at_call 78; refine (in_any _ _ _ _).mono ?_; rintro e w' ⟨rfl, rfl⟩) | (go_at_call 54; refine (key_any _ _).mono ?_; rintro e w' ⟨rfl, rfl⟩) | (go_at_call 79; refine (value_any _ _).mono ?_; rintro e w' ⟨rfl, rfl⟩))
  go_ret
  exact ⟨by simp, (Below.refl _ _).alloc (Nat.le_refl _) _⟩

set_option linter.unusedSimpArgs false in
set_option maxHeartbeats 1000000 in
theorem specOp_5_3 (v : Int) (hv : Ch.inB v 0 9999 = true) (w : World) :
    Calls Try.prog 53 #[.agg #[.int .i64 5, .int .i64 0, .int .i64 0, .int .i64 v]] w fun e w' => e = .returned (.int .i64 0) ∧ Below w.heap.size w w' := by
  go_enter Try.func53, Try.ntmps53
  go_wp2_with (first | (go_at_call 78; refine (in_any _ _ _ _).mono ?_; rintro e w' ⟨rfl, rfl⟩) | (go_at_call 54; refine (key_any _ _).mono ?_; rintro e w' ⟨rfl, rfl⟩) | (go_at_call 79; refine (value_any _ _).mono ?_; rintro e w' ⟨rfl, rfl⟩))
  go_ret
  exact ⟨by simp, (Below.refl _ _).alloc (Nat.le_refl _) _⟩

set_option linter.unusedSimpArgs false in
set_option maxHeartbeats 1000000 in
theorem specOp_6_0 (a b v : Int) (za : (a != 0) = true) (w : World) :
    Calls Try.prog 53 #[.agg #[.int .i64 6, .int .i64 a, .int .i64 b, .int .i64 v]] w fun e w' => e = .returned (.int .i64 1) ∧ Below w.heap.size w w' := by
  go_enter Try.func53, Try.ntmps53
  go_wp2_with (first | (go_at_call 78; refine (in_any _ _ _ _).mono ?_; rintro e w' ⟨rfl, rfl⟩) | (go_at_call 54; refine (key_any _ _).mono ?_; rintro e w' ⟨rfl, rfl⟩) | (go_at_call 79; refine (value_any _ _).mono ?_; rintro e w' ⟨rfl, rfl⟩))
  go_ret
  exact ⟨by simp, (Below.refl _ _).alloc (Nat.le_refl _) _⟩

set_option linter.unusedSimpArgs false in
set_option maxHeartbeats 1000000 in
theorem specOp_6_1 (b v : Int) (zb : (b != 0) = true) (w : World) :
    Calls Try.prog 53 #[.agg #[.int .i64 6, .int .i64 0, .int .i64 b, .int .i64 v]] w fun e w' => e = .returned (.int .i64 1) ∧ Below w.heap.size w w' := by
  go_enter Try.func53, Try.ntmps53
  go_wp2_with (first | (go_at_call 78; refine (in_any _ _ _ _).mono ?_; rintro e w' ⟨rfl, rfl⟩) | (go_at_call 54; refine (key_any _ _).mono ?_; rintro e w' ⟨rfl, rfl⟩) | (go_at_call 79; refine (value_any _ _).mono ?_; rintro e w' ⟨rfl, rfl⟩))
  go_ret
  exact ⟨by simp, (Below.refl _ _).alloc (Nat.le_refl _) _⟩

set_option linter.unusedSimpArgs false in
set_option maxHeartbeats 1000000 in
theorem specOp_6_2 (v : Int) (zv : (v != 0) = true) (w : World) :
    Calls Try.prog 53 #[.agg #[.int .i64 6, .int .i64 0, .int .i64 0, .int .i64 v]] w fun e w' => e = .returned (.int .i64 1) ∧ Below w.heap.size w w' := by
  go_enter Try.func53, Try.ntmps53
  go_wp2_with (first | (go_at_call 78; refine (in_any _ _ _ _).mono ?_; rintro e w' ⟨rfl, rfl⟩) | (go_at_call 54; refine (key_any _ _).mono ?_; rintro e w' ⟨rfl, rfl⟩) | (go_at_call 79; refine (value_any _ _).mono ?_; rintro e w' ⟨rfl, rfl⟩))
  go_ret
  exact ⟨by simp, (Below.refl _ _).alloc (Nat.le_refl _) _⟩

set_option linter.unusedSimpArgs false in
set_option maxHeartbeats 1000000 in
theorem specOp_6_3 (w : World) :
    Calls Try.prog 53 #[.agg #[.int .i64 6, .int .i64 0, .int .i64 0, .int .i64 0]] w fun e w' => e = .returned (.int .i64 0) ∧ Below w.heap.size w w' := by
  go_enter Try.func53, Try.ntmps53
  go_wp2_with (first | (go_at_call 78; refine (in_any _ _ _ _).mono ?_; rintro e w' ⟨rfl, rfl⟩) | (go_at_call 54; refine (key_any _ _).mono ?_; rintro e w' ⟨rfl, rfl⟩) | (go_at_call 79; refine (value_any _ _).mono ?_; rintro e w' ⟨rfl, rfl⟩))
  go_ret
  exact ⟨by simp, (Below.refl _ _).alloc (Nat.le_refl _) _⟩

set_option linter.unusedSimpArgs false in
set_option maxHeartbeats 1000000 in
theorem specOp_7_0 (a b v : Int) (za : (a != 0) = true) (w : World) :
    Calls Try.prog 53 #[.agg #[.int .i64 7, .int .i64 a, .int .i64 b, .int .i64 v]] w fun e w' => e = .returned (.int .i64 1) ∧ Below w.heap.size w w' := by
  go_enter Try.func53, Try.ntmps53
  go_wp2_with (first | (go_at_call 78; refine (in_any _ _ _ _).mono ?_; rintro e w' ⟨rfl, rfl⟩) | (go_at_call 54; refine (key_any _ _).mono ?_; rintro e w' ⟨rfl, rfl⟩) | (go_at_call 79; refine (value_any _ _).mono ?_; rintro e w' ⟨rfl, rfl⟩))
  go_ret
  exact ⟨by simp, (Below.refl _ _).alloc (Nat.le_refl _) _⟩

set_option linter.unusedSimpArgs false in
set_option maxHeartbeats 1000000 in
theorem specOp_7_1 (b v : Int) (zb : (b != 0) = true) (w : World) :
    Calls Try.prog 53 #[.agg #[.int .i64 7, .int .i64 0, .int .i64 b, .int .i64 v]] w fun e w' => e = .returned (.int .i64 1) ∧ Below w.heap.size w w' := by
  go_enter Try.func53, Try.ntmps53
  go_wp2_with (first | (go_at_call 78; refine (in_any _ _ _ _).mono ?_; rintro e w' ⟨rfl, rfl⟩) | (go_at_call 54; refine (key_any _ _).mono ?_; rintro e w' ⟨rfl, rfl⟩) | (go_at_call 79; refine (value_any _ _).mono ?_; rintro e w' ⟨rfl, rfl⟩))
  go_ret
  exact ⟨by simp, (Below.refl _ _).alloc (Nat.le_refl _) _⟩

set_option linter.unusedSimpArgs false in
set_option maxHeartbeats 1000000 in
theorem specOp_7_2 (v : Int) (zv : (v != 0) = true) (w : World) :
    Calls Try.prog 53 #[.agg #[.int .i64 7, .int .i64 0, .int .i64 0, .int .i64 v]] w fun e w' => e = .returned (.int .i64 1) ∧ Below w.heap.size w w' := by
  go_enter Try.func53, Try.ntmps53
  go_wp2_with (first | (go_at_call 78; refine (in_any _ _ _ _).mono ?_; rintro e w' ⟨rfl, rfl⟩) | (go_at_call 54; refine (key_any _ _).mono ?_; rintro e w' ⟨rfl, rfl⟩) | (go_at_call 79; refine (value_any _ _).mono ?_; rintro e w' ⟨rfl, rfl⟩))
  go_ret
  exact ⟨by simp, (Below.refl _ _).alloc (Nat.le_refl _) _⟩

set_option linter.unusedSimpArgs false in
set_option maxHeartbeats 1000000 in
theorem specOp_7_3 (w : World) :
    Calls Try.prog 53 #[.agg #[.int .i64 7, .int .i64 0, .int .i64 0, .int .i64 0]] w fun e w' => e = .returned (.int .i64 0) ∧ Below w.heap.size w w' := by
  go_enter Try.func53, Try.ntmps53
  go_wp2_with (first | (go_at_call 78; refine (in_any _ _ _ _).mono ?_; rintro e w' ⟨rfl, rfl⟩) | (go_at_call 54; refine (key_any _ _).mono ?_; rintro e w' ⟨rfl, rfl⟩) | (go_at_call 79; refine (value_any _ _).mono ?_; rintro e w' ⟨rfl, rfl⟩))
  go_ret
  exact ⟨by simp, (Below.refl _ _).alloc (Nat.le_refl _) _⟩

set_option linter.unusedSimpArgs false in
set_option maxHeartbeats 1000000 in
theorem specOp_8_0 (a b v : Int) (ha : Ch.inB a 0 99 = false) (w : World) :
    Calls Try.prog 53 #[.agg #[.int .i64 8, .int .i64 a, .int .i64 b, .int .i64 v]] w fun e w' => e = .returned (.int .i64 3) ∧ Below w.heap.size w w' := by
  go_enter Try.func53, Try.ntmps53
  go_wp2_with (first | (go_at_call 78; refine (in_any _ _ _ _).mono ?_; rintro e w' ⟨rfl, rfl⟩) | (go_at_call 54; refine (key_any _ _).mono ?_; rintro e w' ⟨rfl, rfl⟩) | (go_at_call 79; refine (value_any _ _).mono ?_; rintro e w' ⟨rfl, rfl⟩))
  go_ret
  exact ⟨by simp, (Below.refl _ _).alloc (Nat.le_refl _) _⟩

set_option linter.unusedSimpArgs false in
set_option maxHeartbeats 1000000 in
theorem specOp_8_1 (a b v : Int) (ha : Ch.inB a 0 99 = true) (zb : (b != 0) = true) (w : World) :
    Calls Try.prog 53 #[.agg #[.int .i64 8, .int .i64 a, .int .i64 b, .int .i64 v]] w fun e w' => e = .returned (.int .i64 1) ∧ Below w.heap.size w w' := by
  go_enter Try.func53, Try.ntmps53
  go_wp2_with (first | (go_at_call 78; refine (in_any _ _ _ _).mono ?_; rintro e w' ⟨rfl, rfl⟩) | (go_at_call 54; refine (key_any _ _).mono ?_; rintro e w' ⟨rfl, rfl⟩) | (go_at_call 79; refine (value_any _ _).mono ?_; rintro e w' ⟨rfl, rfl⟩))
  go_ret
  exact ⟨by simp, (Below.refl _ _).alloc (Nat.le_refl _) _⟩

set_option linter.unusedSimpArgs false in
set_option maxHeartbeats 1000000 in
theorem specOp_8_2 (a v : Int) (ha : Ch.inB a 0 99 = true) (zv : (v != 0) = true) (w : World) :
    Calls Try.prog 53 #[.agg #[.int .i64 8, .int .i64 a, .int .i64 0, .int .i64 v]] w fun e w' => e = .returned (.int .i64 1) ∧ Below w.heap.size w w' := by
  go_enter Try.func53, Try.ntmps53
  go_wp2_with (first | (go_at_call 78; refine (in_any _ _ _ _).mono ?_; rintro e w' ⟨rfl, rfl⟩) | (go_at_call 54; refine (key_any _ _).mono ?_; rintro e w' ⟨rfl, rfl⟩) | (go_at_call 79; refine (value_any _ _).mono ?_; rintro e w' ⟨rfl, rfl⟩))
  go_ret
  exact ⟨by simp, (Below.refl _ _).alloc (Nat.le_refl _) _⟩

set_option linter.unusedSimpArgs false in
set_option maxHeartbeats 1000000 in
theorem specOp_8_3 (a : Int) (ha : Ch.inB a 0 99 = true) (w : World) :
    Calls Try.prog 53 #[.agg #[.int .i64 8, .int .i64 a, .int .i64 0, .int .i64 0]] w fun e w' => e = .returned (.int .i64 0) ∧ Below w.heap.size w w' := by
  go_enter Try.func53, Try.ntmps53
  go_wp2_with (first | (go_at_call 78; refine (in_any _ _ _ _).mono ?_; rintro e w' ⟨rfl, rfl⟩) | (go_at_call 54; refine (key_any _ _).mono ?_; rintro e w' ⟨rfl, rfl⟩) | (go_at_call 79; refine (value_any _ _).mono ?_; rintro e w' ⟨rfl, rfl⟩))
  go_ret
  exact ⟨by simp, (Below.refl _ _).alloc (Nat.le_refl _) _⟩

set_option linter.unusedSimpArgs false in
set_option maxHeartbeats 1000000 in
theorem specOp_9_0 (a b v : Int) (za : (a != 0) = true) (w : World) :
    Calls Try.prog 53 #[.agg #[.int .i64 9, .int .i64 a, .int .i64 b, .int .i64 v]] w fun e w' => e = .returned (.int .i64 1) ∧ Below w.heap.size w w' := by
  go_enter Try.func53, Try.ntmps53
  go_wp2_with (first | (go_at_call 78; refine (in_any _ _ _ _).mono ?_; rintro e w' ⟨rfl, rfl⟩) | (go_at_call 54; refine (key_any _ _).mono ?_; rintro e w' ⟨rfl, rfl⟩) | (go_at_call 79; refine (value_any _ _).mono ?_; rintro e w' ⟨rfl, rfl⟩))
  go_ret
  exact ⟨by simp, (Below.refl _ _).alloc (Nat.le_refl _) _⟩

set_option linter.unusedSimpArgs false in
set_option maxHeartbeats 1000000 in
theorem specOp_9_1 (b v : Int) (zb : (b != 0) = true) (w : World) :
    Calls Try.prog 53 #[.agg #[.int .i64 9, .int .i64 0, .int .i64 b, .int .i64 v]] w fun e w' => e = .returned (.int .i64 1) ∧ Below w.heap.size w w' := by
  go_enter Try.func53, Try.ntmps53
  go_wp2_with (first | (go_at_call 78; refine (in_any _ _ _ _).mono ?_; rintro e w' ⟨rfl, rfl⟩) | (go_at_call 54; refine (key_any _ _).mono ?_; rintro e w' ⟨rfl, rfl⟩) | (go_at_call 79; refine (value_any _ _).mono ?_; rintro e w' ⟨rfl, rfl⟩))
  go_ret
  exact ⟨by simp, (Below.refl _ _).alloc (Nat.le_refl _) _⟩

set_option linter.unusedSimpArgs false in
set_option maxHeartbeats 1000000 in
theorem specOp_9_2 (v : Int) (zv : (v != 0) = true) (w : World) :
    Calls Try.prog 53 #[.agg #[.int .i64 9, .int .i64 0, .int .i64 0, .int .i64 v]] w fun e w' => e = .returned (.int .i64 1) ∧ Below w.heap.size w w' := by
  go_enter Try.func53, Try.ntmps53
  go_wp2_with (first | (go_at_call 78; refine (in_any _ _ _ _).mono ?_; rintro e w' ⟨rfl, rfl⟩) | (go_at_call 54; refine (key_any _ _).mono ?_; rintro e w' ⟨rfl, rfl⟩) | (go_at_call 79; refine (value_any _ _).mono ?_; rintro e w' ⟨rfl, rfl⟩))
  go_ret
  exact ⟨by simp, (Below.refl _ _).alloc (Nat.le_refl _) _⟩

set_option linter.unusedSimpArgs false in
set_option maxHeartbeats 1000000 in
theorem specOp_9_3 (w : World) :
    Calls Try.prog 53 #[.agg #[.int .i64 9, .int .i64 0, .int .i64 0, .int .i64 0]] w fun e w' => e = .returned (.int .i64 0) ∧ Below w.heap.size w w' := by
  go_enter Try.func53, Try.ntmps53
  go_wp2_with (first | (go_at_call 78; refine (in_any _ _ _ _).mono ?_; rintro e w' ⟨rfl, rfl⟩) | (go_at_call 54; refine (key_any _ _).mono ?_; rintro e w' ⟨rfl, rfl⟩) | (go_at_call 79; refine (value_any _ _).mono ?_; rintro e w' ⟨rfl, rfl⟩))
  go_ret
  exact ⟨by simp, (Below.refl _ _).alloc (Nat.le_refl _) _⟩

set_option linter.unusedSimpArgs false in
set_option maxHeartbeats 1000000 in
theorem specOp_10_0 (a b v : Int) (za : (a != 0) = true) (w : World) :
    Calls Try.prog 53 #[.agg #[.int .i64 10, .int .i64 a, .int .i64 b, .int .i64 v]] w fun e w' => e = .returned (.int .i64 1) ∧ Below w.heap.size w w' := by
  go_enter Try.func53, Try.ntmps53
  go_wp2_with (first | (go_at_call 78; refine (in_any _ _ _ _).mono ?_; rintro e w' ⟨rfl, rfl⟩) | (go_at_call 54; refine (key_any _ _).mono ?_; rintro e w' ⟨rfl, rfl⟩) | (go_at_call 79; refine (value_any _ _).mono ?_; rintro e w' ⟨rfl, rfl⟩))
  go_ret
  exact ⟨by simp, (Below.refl _ _).alloc (Nat.le_refl _) _⟩

set_option linter.unusedSimpArgs false in
set_option maxHeartbeats 1000000 in
theorem specOp_10_1 (b v : Int) (zb : (b != 0) = true) (w : World) :
    Calls Try.prog 53 #[.agg #[.int .i64 10, .int .i64 0, .int .i64 b, .int .i64 v]] w fun e w' => e = .returned (.int .i64 1) ∧ Below w.heap.size w w' := by
  go_enter Try.func53, Try.ntmps53
  go_wp2_with (first | (go_at_call 78; refine (in_any _ _ _ _).mono ?_; rintro e w' ⟨rfl, rfl⟩) | (go_at_call 54; refine (key_any _ _).mono ?_; rintro e w' ⟨rfl, rfl⟩) | (go_at_call 79; refine (value_any _ _).mono ?_; rintro e w' ⟨rfl, rfl⟩))
  go_ret
  exact ⟨by simp, (Below.refl _ _).alloc (Nat.le_refl _) _⟩

set_option linter.unusedSimpArgs false in
set_option maxHeartbeats 1000000 in
theorem specOp_10_2 (v : Int) (zv : (v != 0) = true) (w : World) :
    Calls Try.prog 53 #[.agg #[.int .i64 10, .int .i64 0, .int .i64 0, .int .i64 v]] w fun e w' => e = .returned (.int .i64 1) ∧ Below w.heap.size w w' := by
  go_enter Try.func53, Try.ntmps53
  go_wp2_with (first | (go_at_call 78; refine (in_any _ _ _ _).mono ?_; rintro e w' ⟨rfl, rfl⟩) | (go_at_call 54; refine (key_any _ _).mono ?_; rintro e w' ⟨rfl, rfl⟩) | (go_at_call 79; refine (value_any _ _).mono ?_; rintro e w' ⟨rfl, rfl⟩))
  go_ret
  exact ⟨by simp, (Below.refl _ _).alloc (Nat.le_refl _) _⟩

set_option linter.unusedSimpArgs false in
set_option maxHeartbeats 1000000 in
theorem specOp_10_3 (w : World) :
    Calls Try.prog 53 #[.agg #[.int .i64 10, .int .i64 0, .int .i64 0, .int .i64 0]] w fun e w' => e = .returned (.int .i64 0) ∧ Below w.heap.size w w' := by
  go_enter Try.func53, Try.ntmps53
  go_wp2_with (first | (go_at_call 78; refine (in_any _ _ _ _).mono ?_; rintro e w' ⟨rfl, rfl⟩) | (go_at_call 54; refine (key_any _ _).mono ?_; rintro e w' ⟨rfl, rfl⟩) | (go_at_call 79; refine (value_any _ _).mono ?_; rintro e w' ⟨rfl, rfl⟩))
  go_ret
  exact ⟨by simp, (Below.refl _ _).alloc (Nat.le_refl _) _⟩

theorem specOp_1 (a b v : Int) (w : World) :
    Calls Try.prog 53 #[.agg #[.int .i64 1, .int .i64 a, .int .i64 b, .int .i64 v]] w fun e w' => e = .returned (.int .i64 (Ch.opFault 1 a b v)) ∧ Below w.heap.size w w' := by
  have ku : ∀ c : Int, Ch.opFault 1 a b v = c → (Calls Try.prog 53 #[.agg #[.int .i64 1, .int .i64 a, .int .i64 b, .int .i64 v]] w fun e w' => e = .returned (.int .i64 c) ∧ Below w.heap.size w w') → (Calls Try.prog 53 #[.agg #[.int .i64 1, .int .i64 a, .int .i64 b, .int .i64 v]] w fun e w' => e = .returned (.int .i64 (Ch.opFault 1 a b v)) ∧ Below w.heap.size w w') := fun c hc h => by rw [hc]; exact h
  cases ha : Ch.inB a 0 99
  · exact ku 3 (by simp [Ch.opFault, *]) (specOp_1_0 a b v ha w)
  by_cases qb : b = 0
  rotate_left
  · have zb : (b != 0) = true := by simpa using qb
    exact ku 1 (by simp [Ch.opFault, *]) (specOp_1_1 a b v ha zb w)
  subst qb
  by_cases qv : v = 0
  rotate_left
  · have zv : (v != 0) = true := by simpa using qv
    exact ku 1 (by simp [Ch.opFault, *]) (specOp_1_2 a v ha zv w)
  subst qv
  exact ku 0 (by simp [Ch.opFault, *]) (specOp_1_3 a ha w)

theorem specOp_2 (a b v : Int) (w : World) :
    Calls Try.prog 53 #[.agg #[.int .i64 2, .int .i64 a, .int .i64 b, .int .i64 v]] w fun e w' => e = .returned (.int .i64 (Ch.opFault 2 a b v)) ∧ Below w.heap.size w w' := by
  have ku : ∀ c : Int, Ch.opFault 2 a b v = c → (Calls Try.prog 53 #[.agg #[.int .i64 2, .int .i64 a, .int .i64 b, .int .i64 v]] w fun e w' => e = .returned (.int .i64 c) ∧ Below w.heap.size w w') → (Calls Try.prog 53 #[.agg #[.int .i64 2, .int .i64 a, .int .i64 b, .int .i64 v]] w fun e w' => e = .returned (.int .i64 (Ch.opFault 2 a b v)) ∧ Below w.heap.size w w') := fun c hc h => by rw [hc]; exact h
  cases ha : Ch.inB a 0 99
  · exact ku 3 (by simp [Ch.opFault, *]) (specOp_2_0 a b v ha w)
  cases hv : Ch.inB v 0 9999
  · exact ku 3 (by simp [Ch.opFault, *]) (specOp_2_1 a b v ha hv w)
  by_cases qb : b = 0
  rotate_left
  · have zb : (b != 0) = true := by simpa using qb
    exact ku 1 (by simp [Ch.opFault, *]) (specOp_2_2 a b v ha hv zb w)
  subst qb
  exact ku 0 (by simp [Ch.opFault, *]) (specOp_2_3 a v ha hv w)

theorem specOp_3 (a b v : Int) (w : World) :
    Calls Try.prog 53 #[.agg #[.int .i64 3, .int .i64 a, .int .i64 b, .int .i64 v]] w fun e w' => e = .returned (.int .i64 (Ch.opFault 3 a b v)) ∧ Below w.heap.size w w' := by
  have ku : ∀ c : Int, Ch.opFault 3 a b v = c → (Calls Try.prog 53 #[.agg #[.int .i64 3, .int .i64 a, .int .i64 b, .int .i64 v]] w fun e w' => e = .returned (.int .i64 c) ∧ Below w.heap.size w w') → (Calls Try.prog 53 #[.agg #[.int .i64 3, .int .i64 a, .int .i64 b, .int .i64 v]] w fun e w' => e = .returned (.int .i64 (Ch.opFault 3 a b v)) ∧ Below w.heap.size w w') := fun c hc h => by rw [hc]; exact h
  cases ha : Ch.inB a 0 99
  · exact ku 3 (by simp [Ch.opFault, *]) (specOp_3_0 a b v ha w)
  by_cases qb : b = 0
  rotate_left
  · have zb : (b != 0) = true := by simpa using qb
    exact ku 1 (by simp [Ch.opFault, *]) (specOp_3_1 a b v ha zb w)
  subst qb
  by_cases qv : v = 0
  rotate_left
  · have zv : (v != 0) = true := by simpa using qv
    exact ku 1 (by simp [Ch.opFault, *]) (specOp_3_2 a v ha zv w)
  subst qv
  exact ku 0 (by simp [Ch.opFault, *]) (specOp_3_3 a ha w)

theorem specOp_4 (a b v : Int) (w : World) :
    Calls Try.prog 53 #[.agg #[.int .i64 4, .int .i64 a, .int .i64 b, .int .i64 v]] w fun e w' => e = .returned (.int .i64 (Ch.opFault 4 a b v)) ∧ Below w.heap.size w w' := by
  have ku : ∀ c : Int, Ch.opFault 4 a b v = c → (Calls Try.prog 53 #[.agg #[.int .i64 4, .int .i64 a, .int .i64 b, .int .i64 v]] w fun e w' => e = .returned (.int .i64 c) ∧ Below w.heap.size w w') → (Calls Try.prog 53 #[.agg #[.int .i64 4, .int .i64 a, .int .i64 b, .int .i64 v]] w fun e w' => e = .returned (.int .i64 (Ch.opFault 4 a b v)) ∧ Below w.heap.size w w') := fun c hc h => by rw [hc]; exact h
  cases ha : Ch.inB a 0 99
  · exact ku 3 (by simp [Ch.opFault, *]) (specOp_4_0 a b v ha w)
  cases hb : Ch.inB b 0 99
  · exact ku 3 (by simp [Ch.opFault, *]) (specOp_4_1 a b v ha hb w)
  by_cases qv : v = 0
  rotate_left
  · have zv : (v != 0) = true := by simpa using qv
    exact ku 1 (by simp [Ch.opFault, *]) (specOp_4_2 a b v ha hb zv w)
  subst qv
  exact ku 0 (by simp [Ch.opFault, *]) (specOp_4_3 a b ha hb w)

theorem specOp_5 (a b v : Int) (w : World) :
    Calls Try.prog 53 #[.agg #[.int .i64 5, .int .i64 a, .int .i64 b, .int .i64 v]] w fun e w' => e = .returned (.int .i64 (Ch.opFault 5 a b v)) ∧ Below w.heap.size w w' := by
  have ku : ∀ c : Int, Ch.opFault 5 a b v = c → (Calls Try.prog 53 #[.agg #[.int .i64 5, .int .i64 a, .int .i64 b, .int .i64 v]] w fun e w' => e = .returned (.int .i64 c) ∧ Below w.heap.size w w') → (Calls Try.prog 53 #[.agg #[.int .i64 5, .int .i64 a, .int .i64 b, .int .i64 v]] w fun e w' => e = .returned (.int .i64 (Ch.opFault 5 a b v)) ∧ Below w.heap.size w w') := fun c hc h => by rw [hc]; exact h
  cases hv : Ch.inB v 0 9999
  · exact ku 3 (by simp [Ch.opFault, *]) (specOp_5_0 a b v hv w)
  by_cases qa : a = 0
  rotate_left
  · have za : (a != 0) = true := by simpa using qa
    exact ku 1 (by simp [Ch.opFault, *]) (specOp_5_1 a b v hv za w)
  subst qa
  by_cases qb : b = 0
  rotate_left
  · have zb : (b != 0) = true := by simpa using qb
    exact ku 1 (by simp [Ch.opFault, *]) (specOp_5_2 b v hv zb w)
  subst qb
  exact ku 0 (by simp [Ch.opFault, *]) (specOp_5_3 v hv w)

theorem specOp_6 (a b v : Int) (w : World) :
    Calls Try.prog 53 #[.agg #[.int .i64 6, .int .i64 a, .int .i64 b, .int .i64 v]] w fun e w' => e = .returned (.int .i64 (Ch.opFault 6 a b v)) ∧ Below w.heap.size w w' := by
  have ku : ∀ c : Int, Ch.opFault 6 a b v = c → (Calls Try.prog 53 #[.agg #[.int .i64 6, .int .i64 a, .int .i64 b, .int .i64 v]] w fun e w' => e = .returned (.int .i64 c) ∧ Below w.heap.size w w') → (Calls Try.prog 53 #[.agg #[.int .i64 6, .int .i64 a, .int .i64 b, .int .i64 v]] w fun e w' => e = .returned (.int .i64 (Ch.opFault 6 a b v)) ∧ Below w.heap.size w w') := fun c hc h => by rw [hc]; exact h
  by_cases qa : a = 0
  rotate_left
  · have za : (a != 0) = true := by simpa using qa
    exact ku 1 (by simp [Ch.opFault, *]) (specOp_6_0 a b v za w)
  subst qa
  by_cases qb : b = 0
  rotate_left
  · have zb : (b != 0) = true := by simpa using qb
    exact ku 1 (by simp [Ch.opFault, *]) (specOp_6_1 b v zb w)
  subst qb
  by_cases qv : v = 0
  rotate_left
  · have zv : (v != 0) = true := by simpa using qv
    exact ku 1 (by simp [Ch.opFault, *]) (specOp_6_2 v zv w)
  subst qv
  exact ku 0 (by simp [Ch.opFault, *]) (specOp_6_3  w)

theorem specOp_7 (a b v : Int) (w : World) :
    Calls Try.prog 53 #[.agg #[.int .i64 7, .int .i64 a, .int .i64 b, .int .i64 v]] w fun e w' => e = .returned (.int .i64 (Ch.opFault 7 a b v)) ∧ Below w.heap.size w w' := by
  have ku : ∀ c : Int, Ch.opFault 7 a b v = c → (Calls Try.prog 53 #[.agg #[.int .i64 7, .int .i64 a, .int .i64 b, .int .i64 v]] w fun e w' => e = .returned (.int .i64 c) ∧ Below w.heap.size w w') → (Calls Try.prog 53 #[.agg #[.int .i64 7, .int .i64 a, .int .i64 b, .int .i64 v]] w fun e w' => e = .returned (.int .i64 (Ch.opFault 7 a b v)) ∧ Below w.heap.size w w') := fun c hc h => by rw [hc]; exact h
  by_cases qa : a = 0
  rotate_left
  · have za : (a != 0) = true := by simpa using qa
    exact ku 1 (by simp [Ch.opFault, *]) (specOp_7_0 a b v za w)
  subst qa
  by_cases qb : b = 0
  rotate_left
  · have zb : (b != 0) = true := by simpa using qb
    exact ku 1 (by simp [Ch.opFault, *]) (specOp_7_1 b v zb w)
  subst qb
  by_cases qv : v = 0
  rotate_left
  · have zv : (v != 0) = true := by simpa using qv
    exact ku 1 (by simp [Ch.opFault, *]) (specOp_7_2 v zv w)
  subst qv
  exact ku 0 (by simp [Ch.opFault, *]) (specOp_7_3  w)

theorem specOp_8 (a b v : Int) (w : World) :
    Calls Try.prog 53 #[.agg #[.int .i64 8, .int .i64 a, .int .i64 b, .int .i64 v]] w fun e w' => e = .returned (.int .i64 (Ch.opFault 8 a b v)) ∧ Below w.heap.size w w' := by
  have ku : ∀ c : Int, Ch.opFault 8 a b v = c → (Calls Try.prog 53 #[.agg #[.int .i64 8, .int .i64 a, .int .i64 b, .int .i64 v]] w fun e w' => e = .returned (.int .i64 c) ∧ Below w.heap.size w w') → (Calls Try.prog 53 #[.agg #[.int .i64 8, .int .i64 a, .int .i64 b, .int .i64 v]] w fun e w' => e = .returned (.int .i64 (Ch.opFault 8 a b v)) ∧ Below w.heap.size w w') := fun c hc h => by rw [hc]; exact h
  cases ha : Ch.inB a 0 99
  · exact ku 3 (by simp [Ch.opFault, *]) (specOp_8_0 a b v ha w)
  by_cases qb : b = 0
  rotate_left
  · have zb : (b != 0) = true := by simpa using qb
    exact ku 1 (by simp [Ch.opFault, *]) (specOp_8_1 a b v ha zb w)
  subst qb
  by_cases qv : v = 0
  rotate_left
  · have zv : (v != 0) = true := by simpa using qv
    exact ku 1 (by simp [Ch.opFault, *]) (specOp_8_2 a v ha zv w)
  subst qv
  exact ku 0 (by simp [Ch.opFault, *]) (specOp_8_3 a ha w)

theorem specOp_9 (a b v : Int) (w : World) :
    Calls Try.prog 53 #[.agg #[.int .i64 9, .int .i64 a, .int .i64 b, .int .i64 v]] w fun e w' => e = .returned (.int .i64 (Ch.opFault 9 a b v)) ∧ Below w.heap.size w w' := by
  have ku : ∀ c : Int, Ch.opFault 9 a b v = c → (Calls Try.prog 53 #[.agg #[.int .i64 9, .int .i64 a, .int .i64 b, .int .i64 v]] w fun e w' => e = .returned (.int .i64 c) ∧ Below w.heap.size w w') → (Calls Try.prog 53 #[.agg #[.int .i64 9, .int .i64 a, .int .i64 b, .int .i64 v]] w fun e w' => e = .returned (.int .i64 (Ch.opFault 9 a b v)) ∧ Below w.heap.size w w') := fun c hc h => by rw [hc]; exact h
  by_cases qa : a = 0
  rotate_left
  · have za : (a != 0) = true := by simpa using qa
    exact ku 1 (by simp [Ch.opFault, *]) (specOp_9_0 a b v za w)
  subst qa
  by_cases qb : b = 0
  rotate_left
  · have zb : (b != 0) = true := by simpa using qb
    exact ku 1 (by simp [Ch.opFault, *]) (specOp_9_1 b v zb w)
  subst qb
  by_cases qv : v = 0
  rotate_left
  · have zv : (v != 0) = true := by simpa using qv
    exact ku 1 (by simp [Ch.opFault, *]) (specOp_9_2 v zv w)
  subst qv
  exact ku 0 (by simp [Ch.opFault, *]) (specOp_9_3  w)

theorem specOp_10 (a b v : Int) (w : World) :
    Calls Try.prog 53 #[.agg #[.int .i64 10, .int .i64 a, .int .i64 b, .int .i64 v]] w fun e w' => e = .returned (.int .i64 (Ch.opFault 10 a b v)) ∧ Below w.heap.size w w' := by
  have ku : ∀ c : Int, Ch.opFault 10 a b v = c → (Calls Try.prog 53 #[.agg #[.int .i64 10, .int .i64 a, .int .i64 b, .int .i64 v]] w fun e w' => e = .returned (.int .i64 c) ∧ Below w.heap.size w w') → (Calls Try.prog 53 #[.agg #[.int .i64 10, .int .i64 a, .int .i64 b, .int .i64 v]] w fun e w' => e = .returned (.int .i64 (Ch.opFault 10 a b v)) ∧ Below w.heap.size w w') := fun c hc h => by rw [hc]; exact h
  by_cases qa : a = 0
  rotate_left
  · have za : (a != 0) = true := by simpa using qa
    exact ku 1 (by simp [Ch.opFault, *]) (specOp_10_0 a b v za w)
  subst qa
  by_cases qb : b = 0
  rotate_left
  · have zb : (b != 0) = true := by simpa using qb
    exact ku 1 (by simp [Ch.opFault, *]) (specOp_10_1 b v zb w)
  subst qb
  by_cases qv : v = 0
  rotate_left
  · have zv : (v != 0) = true := by simpa using qv
    exact ku 1 (by simp [Ch.opFault, *]) (specOp_10_2 v zv w)
  subst qv
  exact ku 0 (by simp [Ch.opFault, *]) (specOp_10_3  w)

theorem specOp_no (k a b v : Int) (hk : Ch.inB k 1 10 = false) (w : World) :
    Calls Try.prog 53 #[.agg #[.int .i64 k, .int .i64 a, .int .i64 b, .int .i64 v]] w fun e w' => e = .returned (.int .i64 1) ∧ Below w.heap.size w w' := by
  go_enter Try.func53, Try.ntmps53
  go_wp2_with (first | (go_at_call 78; refine (in_any _ _ _ _).mono ?_; rintro e w' ⟨rfl, rfl⟩) | (go_at_call 54; refine (key_any _ _).mono ?_; rintro e w' ⟨rfl, rfl⟩) | (go_at_call 79; refine (value_any _ _).mono ?_; rintro e w' ⟨rfl, rfl⟩))
  go_ret
  exact ⟨by simp, (Below.refl _ _).alloc (Nat.le_refl _) _⟩

theorem specOp_any (k a b v : Int) (w : World) :
    Calls Try.prog 53 #[.agg #[.int .i64 k, .int .i64 a, .int .i64 b, .int .i64 v]] w fun e w' => e = .returned (.int .i64 (Ch.opFault k a b v)) ∧ Below w.heap.size w w' := by
  rcases Ch.op_cases k with rfl | rfl | rfl | rfl | rfl | rfl | rfl | rfl | rfl | rfl | hk
  · exact specOp_1 a b v w
  · exact specOp_2 a b v w
  · exact specOp_3 a b v w
  · exact specOp_4 a b v w
  · exact specOp_5 a b v w
  · exact specOp_6 a b v w
  · exact specOp_7 a b v w
  · exact specOp_8 a b v w
  · exact specOp_9 a b v w
  · exact specOp_10 a b v w
  · rw [Ch.op_none hk]; exact specOp_no k a b v hk w

end Go.Proofs.Ytlpncikiaojmiaa


/- OpFault of the program. -/
namespace Go.Proofs.Ytlpncikiaojmiaa
open Go.RowKit

/-- Two operations compared. -/
theorem equalOp (k a b v k' a' b' v' : Int) (w : World) :
    (Op.equalIn 10000 49 (.agg #[.int .i64 k, .int .i64 a, .int .i64 b, .int .i64 v]) (.agg #[.int .i64 k', .int .i64 a', .int .i64 b', .int .i64 v'])).run Try.prog w = .ok (k == k' && a == a' && b == b' && v == v') w := by
  have hS : Try.prog.underlying 49 = some (.struct (Try.prog.fieldsOf 49)) := by kernel_rfl
  have hp : Try.prog.stoodInHeld 49 = false := by kernel_rfl
  have u2 := Try.underlying2
  have a2 := Try.isAgg2
  have z2 := Try.sizeOf2
  rw [show (10000 : Nat) = 9999 + 1 from rfl, run_equalIn_agg w 9999 49 _ _ hS hp]
  simp only [Program.fieldsOf, Try.underlying49]
  go_simp
  by_cases h1 : k = k' <;> by_cases h2 : a = a' <;> by_cases h3 : b = b' <;> by_cases h4 : v = v' <;> simp [h1, h2, h3, h4]
theorem neqOp (k a b v k' a' b' v' : Int) (w : World) :
    (binOp .neq 49 (.agg #[.int .i64 k, .int .i64 a, .int .i64 b, .int .i64 v]) (.agg #[.int .i64 k', .int .i64 a', .int .i64 b', .int .i64 v'])).run Try.prog w = .ok (.bool (!(k == k' && a == a' && b == b' && v == v'))) w := by
  rw [run_neq_struct, equalOp]
  rfl

theorem opOf_1 (a b v : Int) (w : World) :
    Calls Try.prog 80 #[.agg #[.int .i64 1, .int .i64 a, .int .i64 b, .int .i64 v]] w fun e w' => e = .returned (.iface 111 (.agg #[.int .i64 a])) ∧ Below w.heap.size w w' := by
  go_enter Try.func80, Try.ntmps80
  go_wp2
  go_ret
  exact ⟨rfl, (Below.refl _ _).alloc (Nat.le_refl _) _⟩

theorem opOf_2 (a b v : Int) (w : World) :
    Calls Try.prog 80 #[.agg #[.int .i64 2, .int .i64 a, .int .i64 b, .int .i64 v]] w fun e w' => e = .returned (.iface 113 (.agg #[.int .i64 a, .int .i64 v])) ∧ Below w.heap.size w w' := by
  go_enter Try.func80, Try.ntmps80
  go_wp2
  go_ret
  exact ⟨rfl, (Below.refl _ _).alloc (Nat.le_refl _) _⟩

theorem opOf_3 (a b v : Int) (w : World) :
    Calls Try.prog 80 #[.agg #[.int .i64 3, .int .i64 a, .int .i64 b, .int .i64 v]] w fun e w' => e = .returned (.iface 114 (.agg #[.int .i64 a])) ∧ Below w.heap.size w w' := by
  go_enter Try.func80, Try.ntmps80
  go_wp2
  go_ret
  exact ⟨rfl, (Below.refl _ _).alloc (Nat.le_refl _) _⟩

theorem opOf_4 (a b v : Int) (w : World) :
    Calls Try.prog 80 #[.agg #[.int .i64 4, .int .i64 a, .int .i64 b, .int .i64 v]] w fun e w' => e = .returned (.iface 116 (.agg #[.int .i64 a, .int .i64 b])) ∧ Below w.heap.size w w' := by
  go_enter Try.func80, Try.ntmps80
  go_wp2
  go_ret
  exact ⟨rfl, (Below.refl _ _).alloc (Nat.le_refl _) _⟩

theorem opOf_5 (a b v : Int) (w : World) :
    Calls Try.prog 80 #[.agg #[.int .i64 5, .int .i64 a, .int .i64 b, .int .i64 v]] w fun e w' => e = .returned (.iface 118 (.agg #[.int .i64 v])) ∧ Below w.heap.size w w' := by
  go_enter Try.func80, Try.ntmps80
  go_wp2
  go_ret
  exact ⟨rfl, (Below.refl _ _).alloc (Nat.le_refl _) _⟩

theorem opOf_6 (a b v : Int) (w : World) :
    Calls Try.prog 80 #[.agg #[.int .i64 6, .int .i64 a, .int .i64 b, .int .i64 v]] w fun e w' => e = .returned (.iface 122 (.agg #[])) ∧ Below w.heap.size w w' := by
  go_enter Try.func80, Try.ntmps80
  go_wp2
  go_ret
  exact ⟨rfl, (Below.refl _ _).alloc (Nat.le_refl _) _⟩

theorem opOf_7 (a b v : Int) (w : World) :
    Calls Try.prog 80 #[.agg #[.int .i64 7, .int .i64 a, .int .i64 b, .int .i64 v]] w fun e w' => e = .returned (.iface 122 (.agg #[])) ∧ Below w.heap.size w w' := by
  go_enter Try.func80, Try.ntmps80
  go_wp2
  go_ret
  exact ⟨rfl, (Below.refl _ _).alloc (Nat.le_refl _) _⟩

theorem opOf_8 (a b v : Int) (w : World) :
    Calls Try.prog 80 #[.agg #[.int .i64 8, .int .i64 a, .int .i64 b, .int .i64 v]] w fun e w' => e = .returned (.iface 114 (.agg #[.int .i64 a])) ∧ Below w.heap.size w w' := by
  go_enter Try.func80, Try.ntmps80
  go_wp2
  go_ret
  exact ⟨rfl, (Below.refl _ _).alloc (Nat.le_refl _) _⟩

theorem opOf_9 (a b v : Int) (w : World) :
    Calls Try.prog 80 #[.agg #[.int .i64 9, .int .i64 a, .int .i64 b, .int .i64 v]] w fun e w' => e = .returned (.iface 121 (.agg #[])) ∧ Below w.heap.size w w' := by
  go_enter Try.func80, Try.ntmps80
  go_wp2
  go_ret
  exact ⟨rfl, (Below.refl _ _).alloc (Nat.le_refl _) _⟩

theorem opOf_10 (a b v : Int) (w : World) :
    Calls Try.prog 80 #[.agg #[.int .i64 10, .int .i64 a, .int .i64 b, .int .i64 v]] w fun e w' => e = .returned (.iface 120 (.agg #[])) ∧ Below w.heap.size w w' := by
  go_enter Try.func80, Try.ntmps80
  go_wp2
  go_ret
  exact ⟨rfl, (Below.refl _ _).alloc (Nat.le_refl _) _⟩

theorem opOf_no (k a b v : Int) (hk : Ch.inB k 1 10 = false) (w : World) :
    Calls Try.prog 80 #[.agg #[.int .i64 k, .int .i64 a, .int .i64 b, .int .i64 v]] w fun e w' => e = .returned .nilIface ∧ Below w.heap.size w w' := by
  have h1 : (k == 1) = false := by (unfold Ch.inB at hk; simp only [Bool.and_eq_false_iff, decide_eq_false_iff_not] at hk; simp; omega)
  have h2 : (k == 2) = false := by (unfold Ch.inB at hk; simp only [Bool.and_eq_false_iff, decide_eq_false_iff_not] at hk; simp; omega)
  have h3 : (k == 3) = false := by (unfold Ch.inB at hk; simp only [Bool.and_eq_false_iff, decide_eq_false_iff_not] at hk; simp; omega)
  have h4 : (k == 4) = false := by (unfold Ch.inB at hk; simp only [Bool.and_eq_false_iff, decide_eq_false_iff_not] at hk; simp; omega)
  have h5 : (k == 5) = false := by (unfold Ch.inB at hk; simp only [Bool.and_eq_false_iff, decide_eq_false_iff_not] at hk; simp; omega)
  have h6 : (k == 6) = false := by (unfold Ch.inB at hk; simp only [Bool.and_eq_false_iff, decide_eq_false_iff_not] at hk; simp; omega)
  have h7 : (k == 7) = false := by (unfold Ch.inB at hk; simp only [Bool.and_eq_false_iff, decide_eq_false_iff_not] at hk; simp; omega)
  have h8 : (k == 8) = false := by (unfold Ch.inB at hk; simp only [Bool.and_eq_false_iff, decide_eq_false_iff_not] at hk; simp; omega)
  have h9 : (k == 9) = false := by (unfold Ch.inB at hk; simp only [Bool.and_eq_false_iff, decide_eq_false_iff_not] at hk; simp; omega)
  have h10 : (k == 10) = false := by (unfold Ch.inB at hk; simp only [Bool.and_eq_false_iff, decide_eq_false_iff_not] at hk; simp; omega)
  clear hk
  go_enter Try.func80, Try.ntmps80
  go_wp2
  go_ret
  exact ⟨rfl, (Below.refl _ _).alloc (Nat.le_refl _) _⟩

set_option linter.unusedSimpArgs false in
set_option maxHeartbeats 1000000 in
theorem fields_readKey (a : Int) (w : World) :
    Calls Try.prog 81 #[.iface 111 (.agg #[.int .i64 a])] w fun e w' => e = .returned (.tuple #[.agg #[.int .i64 0, .int .i64 a, .int .i64 0, .int .i64 0], .bool (Ch.inB a 0 99)]) ∧ Below w.heap.size w w' := by
  have hta0 : ∀ W, (Instr.typeAssert (.iface 111 (.agg #[.int .i64 a])) 99 111 true).run Try.prog W = .ok (.tuple #[.agg #[.int .i64 a], .bool true]) W := fun W => by kernel_rfl
  go_enter Try.func81, Try.ntmps81
  go_wp2
  refine wp_region_noPanic ?_
  refine wp_region_held_drew (S := fun W' => W'.cell? ⟨w.heap.size + 1, 0, none⟩ = some (.int .i64 a)) (by kernel_rfl) (by go_simp) (fun hH => ?_)
  refine hTake (i := 0) (v := ?_) rfl (by kernel_rfl) (by kernel_rfl) (by kernel_rfl) (by rfl) ?_ hH ?_
  rotate_left
  · intro W hW; (try dsimp only at hW); go_simp <;> with_reducible rfl
  simp only [Act.put, List.setIfInBounds_toArray, List.set_cons_zero, List.set_cons_succ]
  refine hTake (i := 1) (v := ?_) rfl (by kernel_rfl) (by kernel_rfl) (by kernel_rfl) (by rfl) ?_ hH ?_
  rotate_left
  · intro W hW; (try dsimp only at hW); go_simp <;> with_reducible rfl
  simp only [Act.put, List.setIfInBounds_toArray, List.set_cons_zero, List.set_cons_succ]
  refine hTake (i := 2) (v := ?_) rfl (by kernel_rfl) (by kernel_rfl) (by kernel_rfl) (by rfl) ?_ hH ?_
  rotate_left
  · intro W hW; (try dsimp only at hW); go_simp <;> with_reducible rfl
  simp only [Act.put, List.setIfInBounds_toArray, List.set_cons_zero, List.set_cons_succ]
  refine hTake (i := 3) (v := ?_) rfl (by kernel_rfl) (by kernel_rfl) (by kernel_rfl) (by rfl) ?_ hH ?_
  rotate_left
  · intro W hW; (try dsimp only at hW); go_simp <;> with_reducible rfl
  simp only [Act.put, List.setIfInBounds_toArray, List.set_cons_zero, List.set_cons_succ]
  refine hTake (i := 4) (v := ?_) rfl (by kernel_rfl) (by kernel_rfl) (by kernel_rfl) (by rfl) ?_ hH ?_
  rotate_left
  · intro W hW; (try dsimp only at hW); go_simp <;> with_reducible rfl
  simp only [Act.put, List.setIfInBounds_toArray, List.set_cons_zero, List.set_cons_succ]
  refine wpAnyH_ready (rs := [5]) (by kernel_rfl) (by simp) ?_
  refine AllReadyH.cons rfl (fun K hK => ?_) AllReadyH.nil
  go_simp
  refine (isKey_any _ _).mono ?_
  rintro e w9 ⟨rfl, rfl⟩
  refine hK.out _ _ ?_ (fun hH => ?_)
  · exact hH
  clear hK K
  refine wpAnyH_ready (rs := [6]) (by kernel_rfl) (by simp) ?_
  refine AllReadyH.cons rfl (fun K hK => ?_) AllReadyH.nil
  go_simp
  refine hK.out _ _ ?_ (fun hH => ?_)
  · go_simp
  clear hK K
  refine hTake (i := 7) (v := ?_) rfl (by kernel_rfl) (by kernel_rfl) (by kernel_rfl) (by rfl) ?_ hH ?_
  rotate_left
  · intro W hW; (try dsimp only at hW); go_simp <;> with_reducible rfl
  simp only [Act.put, List.setIfInBounds_toArray, List.set_cons_zero, List.set_cons_succ]
  refine wpAnyH_done (by kernel_rfl) ?_ _
  refine NoPanic.normal ?_
  go_wp2
  refine bodyPost_ret (v := .tuple #[.agg #[.int .i64 0, .int .i64 a, .int .i64 0, .int .i64 0], .bool (Ch.inB a 0 99)]) (by simp [results, Try.results81, go_sem]) rfl ⟨rfl, ?_⟩
  repeat (first | with_reducible exact Below.refl _ _ | with_reducible refine Below.drew ?_ | with_reducible refine Below.alloc ?_ (by first | exact Nat.le_refl _ | (simp; done) | (simp; omega)) _ | with_reducible refine Below.setCell ?_ (by simp) _)

set_option linter.unusedSimpArgs false in
set_option maxHeartbeats 1000000 in
theorem fields_emptyKey (a : Int) (w : World) :
    Calls Try.prog 81 #[.iface 114 (.agg #[.int .i64 a])] w fun e w' => e = .returned (.tuple #[.agg #[.int .i64 0, .int .i64 a, .int .i64 0, .int .i64 0], .bool (Ch.inB a 0 99)]) ∧ Below w.heap.size w w' := by
  have hta0 : ∀ W, (Instr.typeAssert (.iface 114 (.agg #[.int .i64 a])) 99 111 true).run Try.prog W = .ok (.tuple #[.agg #[.int .i64 0], .bool false]) W := fun W => by kernel_rfl
  have hta1 : ∀ W, (Instr.typeAssert (.iface 114 (.agg #[.int .i64 a])) 99 113 true).run Try.prog W = .ok (.tuple #[.agg #[.int .i64 0, .int .i64 0], .bool false]) W := fun W => by kernel_rfl
  have hta2 : ∀ W, (Instr.typeAssert (.iface 114 (.agg #[.int .i64 a])) 99 114 true).run Try.prog W = .ok (.tuple #[.agg #[.int .i64 a], .bool true]) W := fun W => by kernel_rfl
  go_enter Try.func81, Try.ntmps81
  go_wp2
  refine wp_region_noPanic ?_
  refine wp_region_held_drew (S := fun W' => W'.cell? ⟨w.heap.size + 1, 0, none⟩ = some (.int .i64 a)) (by kernel_rfl) (by go_simp) (fun hH => ?_)
  refine hTake (i := 0) (v := ?_) rfl (by kernel_rfl) (by kernel_rfl) (by kernel_rfl) (by rfl) ?_ hH ?_
  rotate_left
  · intro W hW; (try dsimp only at hW); go_simp <;> with_reducible rfl
  simp only [Act.put, List.setIfInBounds_toArray, List.set_cons_zero, List.set_cons_succ]
  refine hTake (i := 1) (v := ?_) rfl (by kernel_rfl) (by kernel_rfl) (by kernel_rfl) (by rfl) ?_ hH ?_
  rotate_left
  · intro W hW; (try dsimp only at hW); go_simp <;> with_reducible rfl
  simp only [Act.put, List.setIfInBounds_toArray, List.set_cons_zero, List.set_cons_succ]
  refine hTake (i := 2) (v := ?_) rfl (by kernel_rfl) (by kernel_rfl) (by kernel_rfl) (by rfl) ?_ hH ?_
  rotate_left
  · intro W hW; (try dsimp only at hW); go_simp <;> with_reducible rfl
  simp only [Act.put, List.setIfInBounds_toArray, List.set_cons_zero, List.set_cons_succ]
  refine hTake (i := 3) (v := ?_) rfl (by kernel_rfl) (by kernel_rfl) (by kernel_rfl) (by rfl) ?_ hH ?_
  rotate_left
  · intro W hW; (try dsimp only at hW); go_simp <;> with_reducible rfl
  simp only [Act.put, List.setIfInBounds_toArray, List.set_cons_zero, List.set_cons_succ]
  refine hTake (i := 4) (v := ?_) rfl (by kernel_rfl) (by kernel_rfl) (by kernel_rfl) (by rfl) ?_ hH ?_
  rotate_left
  · intro W hW; (try dsimp only at hW); go_simp <;> with_reducible rfl
  simp only [Act.put, List.setIfInBounds_toArray, List.set_cons_zero, List.set_cons_succ]
  refine wpAnyH_ready (rs := [5]) (by kernel_rfl) (by simp) ?_
  refine AllReadyH.cons rfl (fun K hK => ?_) AllReadyH.nil
  go_simp
  refine (isKey_any _ _).mono ?_
  rintro e w9 ⟨rfl, rfl⟩
  refine hK.out _ _ ?_ (fun hH => ?_)
  · exact hH
  clear hK K
  refine wpAnyH_ready (rs := [6]) (by kernel_rfl) (by simp) ?_
  refine AllReadyH.cons rfl (fun K hK => ?_) AllReadyH.nil
  go_simp
  refine hK.out _ _ ?_ (fun hH => ?_)
  · go_simp
  clear hK K
  refine hTake (i := 7) (v := ?_) rfl (by kernel_rfl) (by kernel_rfl) (by kernel_rfl) (by rfl) ?_ hH ?_
  rotate_left
  · intro W hW; (try dsimp only at hW); go_simp <;> with_reducible rfl
  simp only [Act.put, List.setIfInBounds_toArray, List.set_cons_zero, List.set_cons_succ]
  refine wpAnyH_done (by kernel_rfl) ?_ _
  refine NoPanic.normal ?_
  go_wp2
  refine bodyPost_ret (v := .tuple #[.agg #[.int .i64 0, .int .i64 a, .int .i64 0, .int .i64 0], .bool (Ch.inB a 0 99)]) (by simp [results, Try.results81, go_sem]) rfl ⟨rfl, ?_⟩
  repeat (first | with_reducible exact Below.refl _ _ | with_reducible refine Below.drew ?_ | with_reducible refine Below.alloc ?_ (by first | exact Nat.le_refl _ | (simp; done) | (simp; omega)) _ | with_reducible refine Below.setCell ?_ (by simp) _)

set_option linter.unusedSimpArgs false in
set_option maxHeartbeats 1000000 in
theorem fields_readValue (v : Int) (w : World) :
    Calls Try.prog 81 #[.iface 118 (.agg #[.int .i64 v])] w fun e w' => e = .returned (.tuple #[.agg #[.int .i64 0, .int .i64 0, .int .i64 0, .int .i64 v], .bool (Ch.inB v 0 9999)]) ∧ Below w.heap.size w w' := by
  have hta0 : ∀ W, (Instr.typeAssert (.iface 118 (.agg #[.int .i64 v])) 99 111 true).run Try.prog W = .ok (.tuple #[.agg #[.int .i64 0], .bool false]) W := fun W => by kernel_rfl
  have hta1 : ∀ W, (Instr.typeAssert (.iface 118 (.agg #[.int .i64 v])) 99 113 true).run Try.prog W = .ok (.tuple #[.agg #[.int .i64 0, .int .i64 0], .bool false]) W := fun W => by kernel_rfl
  have hta2 : ∀ W, (Instr.typeAssert (.iface 118 (.agg #[.int .i64 v])) 99 114 true).run Try.prog W = .ok (.tuple #[.agg #[.int .i64 0], .bool false]) W := fun W => by kernel_rfl
  have hta3 : ∀ W, (Instr.typeAssert (.iface 118 (.agg #[.int .i64 v])) 99 116 true).run Try.prog W = .ok (.tuple #[.agg #[.int .i64 0, .int .i64 0], .bool false]) W := fun W => by kernel_rfl
  have hta4 : ∀ W, (Instr.typeAssert (.iface 118 (.agg #[.int .i64 v])) 99 118 true).run Try.prog W = .ok (.tuple #[.agg #[.int .i64 v], .bool true]) W := fun W => by kernel_rfl
  go_enter Try.func81, Try.ntmps81
  go_wp2
  refine wp_region_noPanic ?_
  refine wp_region_held_drew (S := fun W' => W'.cell? ⟨w.heap.size + 1, 0, none⟩ = some (.int .i64 v)) (by kernel_rfl) (by go_simp) (fun hH => ?_)
  refine hTake (i := 0) (v := ?_) rfl (by kernel_rfl) (by kernel_rfl) (by kernel_rfl) (by rfl) ?_ hH ?_
  rotate_left
  · intro W hW; (try dsimp only at hW); go_simp <;> with_reducible rfl
  simp only [Act.put, List.setIfInBounds_toArray, List.set_cons_zero, List.set_cons_succ]
  refine hTake (i := 1) (v := ?_) rfl (by kernel_rfl) (by kernel_rfl) (by kernel_rfl) (by rfl) ?_ hH ?_
  rotate_left
  · intro W hW; (try dsimp only at hW); go_simp <;> with_reducible rfl
  simp only [Act.put, List.setIfInBounds_toArray, List.set_cons_zero, List.set_cons_succ]
  refine hTake (i := 2) (v := ?_) rfl (by kernel_rfl) (by kernel_rfl) (by kernel_rfl) (by rfl) ?_ hH ?_
  rotate_left
  · intro W hW; (try dsimp only at hW); go_simp <;> with_reducible rfl
  simp only [Act.put, List.setIfInBounds_toArray, List.set_cons_zero, List.set_cons_succ]
  refine hTake (i := 3) (v := ?_) rfl (by kernel_rfl) (by kernel_rfl) (by kernel_rfl) (by rfl) ?_ hH ?_
  rotate_left
  · intro W hW; (try dsimp only at hW); go_simp <;> with_reducible rfl
  simp only [Act.put, List.setIfInBounds_toArray, List.set_cons_zero, List.set_cons_succ]
  refine hTake (i := 4) (v := ?_) rfl (by kernel_rfl) (by kernel_rfl) (by kernel_rfl) (by rfl) ?_ hH ?_
  rotate_left
  · intro W hW; (try dsimp only at hW); go_simp <;> with_reducible rfl
  simp only [Act.put, List.setIfInBounds_toArray, List.set_cons_zero, List.set_cons_succ]
  refine wpAnyH_ready (rs := [5]) (by kernel_rfl) (by simp) ?_
  refine AllReadyH.cons rfl (fun K hK => ?_) AllReadyH.nil
  go_simp
  refine (isValue_any _ _).mono ?_
  rintro e w9 ⟨rfl, rfl⟩
  refine hK.out _ _ ?_ (fun hH => ?_)
  · exact hH
  clear hK K
  refine wpAnyH_ready (rs := [6]) (by kernel_rfl) (by simp) ?_
  refine AllReadyH.cons rfl (fun K hK => ?_) AllReadyH.nil
  go_simp
  refine hK.out _ _ ?_ (fun hH => ?_)
  · go_simp
  clear hK K
  refine hTake (i := 7) (v := ?_) rfl (by kernel_rfl) (by kernel_rfl) (by kernel_rfl) (by rfl) ?_ hH ?_
  rotate_left
  · intro W hW; (try dsimp only at hW); go_simp <;> with_reducible rfl
  simp only [Act.put, List.setIfInBounds_toArray, List.set_cons_zero, List.set_cons_succ]
  refine wpAnyH_done (by kernel_rfl) ?_ _
  refine NoPanic.normal ?_
  go_wp2
  refine bodyPost_ret (v := .tuple #[.agg #[.int .i64 0, .int .i64 0, .int .i64 0, .int .i64 v], .bool (Ch.inB v 0 9999)]) (by simp [results, Try.results81, go_sem]) rfl ⟨rfl, ?_⟩
  repeat (first | with_reducible exact Below.refl _ _ | with_reducible refine Below.drew ?_ | with_reducible refine Below.alloc ?_ (by first | exact Nat.le_refl _ | (simp; done) | (simp; omega)) _ | with_reducible refine Below.setCell ?_ (by simp) _)

set_option linter.unusedSimpArgs false in
set_option maxHeartbeats 1000000 in
theorem fields_setKey_no (a v : Int) (ha : Ch.inB a 0 99 = false) (w : World) :
    Calls Try.prog 81 #[.iface 113 (.agg #[.int .i64 a, .int .i64 v])] w fun e w' => e = .returned (.tuple #[.agg #[.int .i64 0, .int .i64 a, .int .i64 0, .int .i64 v], .bool false]) ∧ Below w.heap.size w w' := by
  have hta0 : ∀ W, (Instr.typeAssert (.iface 113 (.agg #[.int .i64 a, .int .i64 v])) 99 111 true).run Try.prog W = .ok (.tuple #[.agg #[.int .i64 0], .bool false]) W := fun W => by kernel_rfl
  have hta1 : ∀ W, (Instr.typeAssert (.iface 113 (.agg #[.int .i64 a, .int .i64 v])) 99 113 true).run Try.prog W = .ok (.tuple #[.agg #[.int .i64 a, .int .i64 v], .bool true]) W := fun W => by kernel_rfl
  go_enter Try.func81, Try.ntmps81
  go_wp2
  refine wp_region_noPanic ?_
  refine wp_region_held_drew (S := fun W' => W'.cell? ⟨w.heap.size + 1, 0, none⟩ = some (.int .i64 a) ∧ W'.cell? ⟨w.heap.size + 1, 1, none⟩ = some (.int .i64 v)) (by kernel_rfl) (⟨by go_simp, by go_simp⟩) (fun hH => ?_)
  refine hTake (i := 0) (v := ?_) rfl (by kernel_rfl) (by kernel_rfl) (by kernel_rfl) (by rfl) ?_ hH ?_
  rotate_left
  · intro W hW; (try dsimp only at hW); go_simp <;> with_reducible rfl
  simp only [Act.put, List.setIfInBounds_toArray, List.set_cons_zero, List.set_cons_succ]
  refine hTake (i := 1) (v := ?_) rfl (by kernel_rfl) (by kernel_rfl) (by kernel_rfl) (by rfl) ?_ hH ?_
  rotate_left
  · intro W hW; (try dsimp only at hW); go_simp <;> with_reducible rfl
  simp only [Act.put, List.setIfInBounds_toArray, List.set_cons_zero, List.set_cons_succ]
  refine hTake (i := 2) (v := ?_) rfl (by kernel_rfl) (by kernel_rfl) (by kernel_rfl) (by rfl) ?_ hH ?_
  rotate_left
  · intro W hW; (try dsimp only at hW); go_simp <;> with_reducible rfl
  simp only [Act.put, List.setIfInBounds_toArray, List.set_cons_zero, List.set_cons_succ]
  refine hTake (i := 3) (v := ?_) rfl (by kernel_rfl) (by kernel_rfl) (by kernel_rfl) (by rfl) ?_ hH ?_
  rotate_left
  · intro W hW; (try dsimp only at hW); go_simp <;> with_reducible rfl
  simp only [Act.put, List.setIfInBounds_toArray, List.set_cons_zero, List.set_cons_succ]
  refine hTake (i := 4) (v := ?_) rfl (by kernel_rfl) (by kernel_rfl) (by kernel_rfl) (by rfl) ?_ hH ?_
  rotate_left
  · intro W hW; (try dsimp only at hW); go_simp <;> with_reducible rfl
  simp only [Act.put, List.setIfInBounds_toArray, List.set_cons_zero, List.set_cons_succ]
  refine hTake (i := 5) (v := ?_) rfl (by kernel_rfl) (by kernel_rfl) (by kernel_rfl) (by rfl) ?_ hH ?_
  rotate_left
  · intro W hW; (try dsimp only at hW); go_simp <;> with_reducible rfl
  simp only [Act.put, List.setIfInBounds_toArray, List.set_cons_zero, List.set_cons_succ]
  refine hTake (i := 6) (v := ?_) rfl (by kernel_rfl) (by kernel_rfl) (by kernel_rfl) (by rfl) ?_ hH ?_
  rotate_left
  · intro W hW; (try dsimp only at hW); go_simp <;> with_reducible rfl
  simp only [Act.put, List.setIfInBounds_toArray, List.set_cons_zero, List.set_cons_succ]
  refine wpAnyH_ready (rs := [7]) (by kernel_rfl) (by simp) ?_
  refine AllReadyH.cons rfl (fun K hK => ?_) AllReadyH.nil
  go_simp
  have hc := isKey_any a
  rw [ha] at hc
  refine (hc _).mono ?_
  rintro e w9 ⟨rfl, rfl⟩
  refine hK.out _ _ ?_ (fun hH => ?_)
  · exact hH
  clear hK K
  refine hTake (i := 8) (v := ?_) rfl (by kernel_rfl) (by kernel_rfl) (by kernel_rfl) (by rfl) ?_ hH ?_
  rotate_left
  · intro W hW; (try dsimp only at hW); go_simp <;> with_reducible rfl
  simp only [Act.put, List.setIfInBounds_toArray, List.set_cons_zero, List.set_cons_succ]
  refine hSkip (i := 9) rfl (by kernel_rfl) (by kernel_rfl) (by kernel_rfl) (by rfl) hH ?_
  simp only [Act.put, List.setIfInBounds_toArray, List.set_cons_zero, List.set_cons_succ]
  refine hSkip (i := 10) rfl (by kernel_rfl) (by kernel_rfl) (by kernel_rfl) (by rfl) hH ?_
  simp only [Act.put, List.setIfInBounds_toArray, List.set_cons_zero, List.set_cons_succ]
  refine hSkip (i := 11) rfl (by kernel_rfl) (by kernel_rfl) (by kernel_rfl) (by rfl) hH ?_
  simp only [Act.put, List.setIfInBounds_toArray, List.set_cons_zero, List.set_cons_succ]
  refine hTake (i := 12) (v := ?_) rfl (by kernel_rfl) (by kernel_rfl) (by kernel_rfl) (by rfl) ?_ hH ?_
  rotate_left
  · intro W hW; (try dsimp only at hW); go_simp <;> with_reducible rfl
  simp only [Act.put, List.setIfInBounds_toArray, List.set_cons_zero, List.set_cons_succ]
  refine wpAnyH_ready (rs := [13]) (by kernel_rfl) (by simp) ?_
  refine AllReadyH.cons rfl (fun K hK => ?_) AllReadyH.nil
  go_simp
  refine hK.out _ _ ?_ (fun hH => ?_)
  · constructor <;> go_simp
  clear hK K
  refine hTake (i := 14) (v := ?_) rfl (by kernel_rfl) (by kernel_rfl) (by kernel_rfl) (by rfl) ?_ hH ?_
  rotate_left
  · intro W hW; (try dsimp only at hW); go_simp <;> with_reducible rfl
  simp only [Act.put, List.setIfInBounds_toArray, List.set_cons_zero, List.set_cons_succ]
  refine wpAnyH_done (by kernel_rfl) ?_ _
  refine NoPanic.normal ?_
  go_wp2
  refine bodyPost_ret (v := .tuple #[.agg #[.int .i64 0, .int .i64 a, .int .i64 0, .int .i64 v], .bool false]) (by simp [results, Try.results81, go_sem]) rfl ⟨rfl, ?_⟩
  repeat (first | with_reducible exact Below.refl _ _ | with_reducible refine Below.drew ?_ | with_reducible refine Below.alloc ?_ (by first | exact Nat.le_refl _ | (simp; done) | (simp; omega)) _ | with_reducible refine Below.setCell ?_ (by simp) _)

set_option linter.unusedSimpArgs false in
set_option maxHeartbeats 1000000 in
theorem fields_setKey (a v : Int) (ha : Ch.inB a 0 99 = true) (w : World) :
    Calls Try.prog 81 #[.iface 113 (.agg #[.int .i64 a, .int .i64 v])] w fun e w' => e = .returned (.tuple #[.agg #[.int .i64 0, .int .i64 a, .int .i64 0, .int .i64 v], .bool (Ch.inB v 0 9999)]) ∧ Below w.heap.size w w' := by
  have hta0 : ∀ W, (Instr.typeAssert (.iface 113 (.agg #[.int .i64 a, .int .i64 v])) 99 111 true).run Try.prog W = .ok (.tuple #[.agg #[.int .i64 0], .bool false]) W := fun W => by kernel_rfl
  have hta1 : ∀ W, (Instr.typeAssert (.iface 113 (.agg #[.int .i64 a, .int .i64 v])) 99 113 true).run Try.prog W = .ok (.tuple #[.agg #[.int .i64 a, .int .i64 v], .bool true]) W := fun W => by kernel_rfl
  go_enter Try.func81, Try.ntmps81
  go_wp2
  refine wp_region_noPanic ?_
  refine wp_region_held_drew (S := fun W' => W'.cell? ⟨w.heap.size + 1, 0, none⟩ = some (.int .i64 a) ∧ W'.cell? ⟨w.heap.size + 1, 1, none⟩ = some (.int .i64 v)) (by kernel_rfl) (⟨by go_simp, by go_simp⟩) (fun hH => ?_)
  refine hTake (i := 0) (v := ?_) rfl (by kernel_rfl) (by kernel_rfl) (by kernel_rfl) (by rfl) ?_ hH ?_
  rotate_left
  · intro W hW; (try dsimp only at hW); go_simp <;> with_reducible rfl
  simp only [Act.put, List.setIfInBounds_toArray, List.set_cons_zero, List.set_cons_succ]
  refine hTake (i := 1) (v := ?_) rfl (by kernel_rfl) (by kernel_rfl) (by kernel_rfl) (by rfl) ?_ hH ?_
  rotate_left
  · intro W hW; (try dsimp only at hW); go_simp <;> with_reducible rfl
  simp only [Act.put, List.setIfInBounds_toArray, List.set_cons_zero, List.set_cons_succ]
  refine hTake (i := 2) (v := ?_) rfl (by kernel_rfl) (by kernel_rfl) (by kernel_rfl) (by rfl) ?_ hH ?_
  rotate_left
  · intro W hW; (try dsimp only at hW); go_simp <;> with_reducible rfl
  simp only [Act.put, List.setIfInBounds_toArray, List.set_cons_zero, List.set_cons_succ]
  refine hTake (i := 3) (v := ?_) rfl (by kernel_rfl) (by kernel_rfl) (by kernel_rfl) (by rfl) ?_ hH ?_
  rotate_left
  · intro W hW; (try dsimp only at hW); go_simp <;> with_reducible rfl
  simp only [Act.put, List.setIfInBounds_toArray, List.set_cons_zero, List.set_cons_succ]
  refine hTake (i := 4) (v := ?_) rfl (by kernel_rfl) (by kernel_rfl) (by kernel_rfl) (by rfl) ?_ hH ?_
  rotate_left
  · intro W hW; (try dsimp only at hW); go_simp <;> with_reducible rfl
  simp only [Act.put, List.setIfInBounds_toArray, List.set_cons_zero, List.set_cons_succ]
  refine hTake (i := 5) (v := ?_) rfl (by kernel_rfl) (by kernel_rfl) (by kernel_rfl) (by rfl) ?_ hH ?_
  rotate_left
  · intro W hW; (try dsimp only at hW); go_simp <;> with_reducible rfl
  simp only [Act.put, List.setIfInBounds_toArray, List.set_cons_zero, List.set_cons_succ]
  refine hTake (i := 6) (v := ?_) rfl (by kernel_rfl) (by kernel_rfl) (by kernel_rfl) (by rfl) ?_ hH ?_
  rotate_left
  · intro W hW; (try dsimp only at hW); go_simp <;> with_reducible rfl
  simp only [Act.put, List.setIfInBounds_toArray, List.set_cons_zero, List.set_cons_succ]
  refine wpAnyH_ready (rs := [7]) (by kernel_rfl) (by simp) ?_
  refine AllReadyH.cons rfl (fun K hK => ?_) AllReadyH.nil
  go_simp
  have hc := isKey_any a
  rw [ha] at hc
  refine (hc _).mono ?_
  rintro e w9 ⟨rfl, rfl⟩
  refine hK.out _ _ ?_ (fun hH => ?_)
  · exact hH
  clear hK K
  refine hTake (i := 8) (v := ?_) rfl (by kernel_rfl) (by kernel_rfl) (by kernel_rfl) (by rfl) ?_ hH ?_
  rotate_left
  · intro W hW; (try dsimp only at hW); go_simp <;> with_reducible rfl
  simp only [Act.put, List.setIfInBounds_toArray, List.set_cons_zero, List.set_cons_succ]
  refine hTake (i := 9) (v := ?_) rfl (by kernel_rfl) (by kernel_rfl) (by kernel_rfl) (by rfl) ?_ hH ?_
  rotate_left
  · intro W hW; (try dsimp only at hW); go_simp <;> with_reducible rfl
  simp only [Act.put, List.setIfInBounds_toArray, List.set_cons_zero, List.set_cons_succ]
  refine hTake (i := 10) (v := ?_) rfl (by kernel_rfl) (by kernel_rfl) (by kernel_rfl) (by rfl) ?_ hH ?_
  rotate_left
  · intro W hW; (try dsimp only at hW); go_simp <;> with_reducible rfl
  simp only [Act.put, List.setIfInBounds_toArray, List.set_cons_zero, List.set_cons_succ]
  refine wpAnyH_ready (rs := [11]) (by kernel_rfl) (by simp) ?_
  refine AllReadyH.cons rfl (fun K hK => ?_) AllReadyH.nil
  go_simp
  refine (isValue_any _ _).mono ?_
  rintro e w9 ⟨rfl, rfl⟩
  refine hK.out _ _ ?_ (fun hH => ?_)
  · exact hH
  clear hK K
  refine hTake (i := 12) (v := ?_) rfl (by kernel_rfl) (by kernel_rfl) (by kernel_rfl) (by rfl) ?_ hH ?_
  rotate_left
  · intro W hW; (try dsimp only at hW); go_simp <;> with_reducible rfl
  simp only [Act.put, List.setIfInBounds_toArray, List.set_cons_zero, List.set_cons_succ]
  refine wpAnyH_ready (rs := [13]) (by kernel_rfl) (by simp) ?_
  refine AllReadyH.cons rfl (fun K hK => ?_) AllReadyH.nil
  go_simp
  refine hK.out _ _ ?_ (fun hH => ?_)
  · constructor <;> go_simp
  clear hK K
  refine hTake (i := 14) (v := ?_) rfl (by kernel_rfl) (by kernel_rfl) (by kernel_rfl) (by rfl) ?_ hH ?_
  rotate_left
  · intro W hW; (try dsimp only at hW); go_simp <;> with_reducible rfl
  simp only [Act.put, List.setIfInBounds_toArray, List.set_cons_zero, List.set_cons_succ]
  refine wpAnyH_done (by kernel_rfl) ?_ _
  refine NoPanic.normal ?_
  go_wp2
  refine bodyPost_ret (v := .tuple #[.agg #[.int .i64 0, .int .i64 a, .int .i64 0, .int .i64 v], .bool (Ch.inB v 0 9999)]) (by simp [results, Try.results81, go_sem]) rfl ⟨rfl, ?_⟩
  repeat (first | with_reducible exact Below.refl _ _ | with_reducible refine Below.drew ?_ | with_reducible refine Below.alloc ?_ (by first | exact Nat.le_refl _ | (simp; done) | (simp; omega)) _ | with_reducible refine Below.setCell ?_ (by simp) _)

set_option linter.unusedSimpArgs false in
set_option maxHeartbeats 1000000 in
theorem fields_readRange_no (a b : Int) (ha : Ch.inB a 0 99 = false) (w : World) :
    Calls Try.prog 81 #[.iface 116 (.agg #[.int .i64 a, .int .i64 b])] w fun e w' => e = .returned (.tuple #[.agg #[.int .i64 0, .int .i64 a, .int .i64 b, .int .i64 0], .bool false]) ∧ Below w.heap.size w w' := by
  have hta0 : ∀ W, (Instr.typeAssert (.iface 116 (.agg #[.int .i64 a, .int .i64 b])) 99 111 true).run Try.prog W = .ok (.tuple #[.agg #[.int .i64 0], .bool false]) W := fun W => by kernel_rfl
  have hta1 : ∀ W, (Instr.typeAssert (.iface 116 (.agg #[.int .i64 a, .int .i64 b])) 99 113 true).run Try.prog W = .ok (.tuple #[.agg #[.int .i64 0, .int .i64 0], .bool false]) W := fun W => by kernel_rfl
  have hta2 : ∀ W, (Instr.typeAssert (.iface 116 (.agg #[.int .i64 a, .int .i64 b])) 99 114 true).run Try.prog W = .ok (.tuple #[.agg #[.int .i64 0], .bool false]) W := fun W => by kernel_rfl
  have hta3 : ∀ W, (Instr.typeAssert (.iface 116 (.agg #[.int .i64 a, .int .i64 b])) 99 116 true).run Try.prog W = .ok (.tuple #[.agg #[.int .i64 a, .int .i64 b], .bool true]) W := fun W => by kernel_rfl
  go_enter Try.func81, Try.ntmps81
  go_wp2
  refine wp_region_noPanic ?_
  refine wp_region_held_drew (S := fun W' => W'.cell? ⟨w.heap.size + 1, 0, none⟩ = some (.int .i64 a) ∧ W'.cell? ⟨w.heap.size + 1, 1, none⟩ = some (.int .i64 b)) (by kernel_rfl) (⟨by go_simp, by go_simp⟩) (fun hH => ?_)
  refine hTake (i := 0) (v := ?_) rfl (by kernel_rfl) (by kernel_rfl) (by kernel_rfl) (by rfl) ?_ hH ?_
  rotate_left
  · intro W hW; (try dsimp only at hW); go_simp <;> with_reducible rfl
  simp only [Act.put, List.setIfInBounds_toArray, List.set_cons_zero, List.set_cons_succ]
  refine hTake (i := 1) (v := ?_) rfl (by kernel_rfl) (by kernel_rfl) (by kernel_rfl) (by rfl) ?_ hH ?_
  rotate_left
  · intro W hW; (try dsimp only at hW); go_simp <;> with_reducible rfl
  simp only [Act.put, List.setIfInBounds_toArray, List.set_cons_zero, List.set_cons_succ]
  refine hTake (i := 2) (v := ?_) rfl (by kernel_rfl) (by kernel_rfl) (by kernel_rfl) (by rfl) ?_ hH ?_
  rotate_left
  · intro W hW; (try dsimp only at hW); go_simp <;> with_reducible rfl
  simp only [Act.put, List.setIfInBounds_toArray, List.set_cons_zero, List.set_cons_succ]
  refine hTake (i := 3) (v := ?_) rfl (by kernel_rfl) (by kernel_rfl) (by kernel_rfl) (by rfl) ?_ hH ?_
  rotate_left
  · intro W hW; (try dsimp only at hW); go_simp <;> with_reducible rfl
  simp only [Act.put, List.setIfInBounds_toArray, List.set_cons_zero, List.set_cons_succ]
  refine hTake (i := 4) (v := ?_) rfl (by kernel_rfl) (by kernel_rfl) (by kernel_rfl) (by rfl) ?_ hH ?_
  rotate_left
  · intro W hW; (try dsimp only at hW); go_simp <;> with_reducible rfl
  simp only [Act.put, List.setIfInBounds_toArray, List.set_cons_zero, List.set_cons_succ]
  refine hTake (i := 5) (v := ?_) rfl (by kernel_rfl) (by kernel_rfl) (by kernel_rfl) (by rfl) ?_ hH ?_
  rotate_left
  · intro W hW; (try dsimp only at hW); go_simp <;> with_reducible rfl
  simp only [Act.put, List.setIfInBounds_toArray, List.set_cons_zero, List.set_cons_succ]
  refine hTake (i := 6) (v := ?_) rfl (by kernel_rfl) (by kernel_rfl) (by kernel_rfl) (by rfl) ?_ hH ?_
  rotate_left
  · intro W hW; (try dsimp only at hW); go_simp <;> with_reducible rfl
  simp only [Act.put, List.setIfInBounds_toArray, List.set_cons_zero, List.set_cons_succ]
  refine wpAnyH_ready (rs := [7]) (by kernel_rfl) (by simp) ?_
  refine AllReadyH.cons rfl (fun K hK => ?_) AllReadyH.nil
  go_simp
  have hc := isKey_any a
  rw [ha] at hc
  refine (hc _).mono ?_
  rintro e w9 ⟨rfl, rfl⟩
  refine hK.out _ _ ?_ (fun hH => ?_)
  · exact hH
  clear hK K
  refine hTake (i := 8) (v := ?_) rfl (by kernel_rfl) (by kernel_rfl) (by kernel_rfl) (by rfl) ?_ hH ?_
  rotate_left
  · intro W hW; (try dsimp only at hW); go_simp <;> with_reducible rfl
  simp only [Act.put, List.setIfInBounds_toArray, List.set_cons_zero, List.set_cons_succ]
  refine hSkip (i := 9) rfl (by kernel_rfl) (by kernel_rfl) (by kernel_rfl) (by rfl) hH ?_
  simp only [Act.put, List.setIfInBounds_toArray, List.set_cons_zero, List.set_cons_succ]
  refine hSkip (i := 10) rfl (by kernel_rfl) (by kernel_rfl) (by kernel_rfl) (by rfl) hH ?_
  simp only [Act.put, List.setIfInBounds_toArray, List.set_cons_zero, List.set_cons_succ]
  refine hSkip (i := 11) rfl (by kernel_rfl) (by kernel_rfl) (by kernel_rfl) (by rfl) hH ?_
  simp only [Act.put, List.setIfInBounds_toArray, List.set_cons_zero, List.set_cons_succ]
  refine hTake (i := 12) (v := ?_) rfl (by kernel_rfl) (by kernel_rfl) (by kernel_rfl) (by rfl) ?_ hH ?_
  rotate_left
  · intro W hW; (try dsimp only at hW); go_simp <;> with_reducible rfl
  simp only [Act.put, List.setIfInBounds_toArray, List.set_cons_zero, List.set_cons_succ]
  refine wpAnyH_ready (rs := [13]) (by kernel_rfl) (by simp) ?_
  refine AllReadyH.cons rfl (fun K hK => ?_) AllReadyH.nil
  go_simp
  refine hK.out _ _ ?_ (fun hH => ?_)
  · constructor <;> go_simp
  clear hK K
  refine hTake (i := 14) (v := ?_) rfl (by kernel_rfl) (by kernel_rfl) (by kernel_rfl) (by rfl) ?_ hH ?_
  rotate_left
  · intro W hW; (try dsimp only at hW); go_simp <;> with_reducible rfl
  simp only [Act.put, List.setIfInBounds_toArray, List.set_cons_zero, List.set_cons_succ]
  refine wpAnyH_done (by kernel_rfl) ?_ _
  refine NoPanic.normal ?_
  go_wp2
  refine bodyPost_ret (v := .tuple #[.agg #[.int .i64 0, .int .i64 a, .int .i64 b, .int .i64 0], .bool false]) (by simp [results, Try.results81, go_sem]) rfl ⟨rfl, ?_⟩
  repeat (first | with_reducible exact Below.refl _ _ | with_reducible refine Below.drew ?_ | with_reducible refine Below.alloc ?_ (by first | exact Nat.le_refl _ | (simp; done) | (simp; omega)) _ | with_reducible refine Below.setCell ?_ (by simp) _)

set_option linter.unusedSimpArgs false in
set_option maxHeartbeats 1000000 in
theorem fields_readRange (a b : Int) (ha : Ch.inB a 0 99 = true) (w : World) :
    Calls Try.prog 81 #[.iface 116 (.agg #[.int .i64 a, .int .i64 b])] w fun e w' => e = .returned (.tuple #[.agg #[.int .i64 0, .int .i64 a, .int .i64 b, .int .i64 0], .bool (Ch.inB b 0 99)]) ∧ Below w.heap.size w w' := by
  have hta0 : ∀ W, (Instr.typeAssert (.iface 116 (.agg #[.int .i64 a, .int .i64 b])) 99 111 true).run Try.prog W = .ok (.tuple #[.agg #[.int .i64 0], .bool false]) W := fun W => by kernel_rfl
  have hta1 : ∀ W, (Instr.typeAssert (.iface 116 (.agg #[.int .i64 a, .int .i64 b])) 99 113 true).run Try.prog W = .ok (.tuple #[.agg #[.int .i64 0, .int .i64 0], .bool false]) W := fun W => by kernel_rfl
  have hta2 : ∀ W, (Instr.typeAssert (.iface 116 (.agg #[.int .i64 a, .int .i64 b])) 99 114 true).run Try.prog W = .ok (.tuple #[.agg #[.int .i64 0], .bool false]) W := fun W => by kernel_rfl
  have hta3 : ∀ W, (Instr.typeAssert (.iface 116 (.agg #[.int .i64 a, .int .i64 b])) 99 116 true).run Try.prog W = .ok (.tuple #[.agg #[.int .i64 a, .int .i64 b], .bool true]) W := fun W => by kernel_rfl
  go_enter Try.func81, Try.ntmps81
  go_wp2
  refine wp_region_noPanic ?_
  refine wp_region_held_drew (S := fun W' => W'.cell? ⟨w.heap.size + 1, 0, none⟩ = some (.int .i64 a) ∧ W'.cell? ⟨w.heap.size + 1, 1, none⟩ = some (.int .i64 b)) (by kernel_rfl) (⟨by go_simp, by go_simp⟩) (fun hH => ?_)
  refine hTake (i := 0) (v := ?_) rfl (by kernel_rfl) (by kernel_rfl) (by kernel_rfl) (by rfl) ?_ hH ?_
  rotate_left
  · intro W hW; (try dsimp only at hW); go_simp <;> with_reducible rfl
  simp only [Act.put, List.setIfInBounds_toArray, List.set_cons_zero, List.set_cons_succ]
  refine hTake (i := 1) (v := ?_) rfl (by kernel_rfl) (by kernel_rfl) (by kernel_rfl) (by rfl) ?_ hH ?_
  rotate_left
  · intro W hW; (try dsimp only at hW); go_simp <;> with_reducible rfl
  simp only [Act.put, List.setIfInBounds_toArray, List.set_cons_zero, List.set_cons_succ]
  refine hTake (i := 2) (v := ?_) rfl (by kernel_rfl) (by kernel_rfl) (by kernel_rfl) (by rfl) ?_ hH ?_
  rotate_left
  · intro W hW; (try dsimp only at hW); go_simp <;> with_reducible rfl
  simp only [Act.put, List.setIfInBounds_toArray, List.set_cons_zero, List.set_cons_succ]
  refine hTake (i := 3) (v := ?_) rfl (by kernel_rfl) (by kernel_rfl) (by kernel_rfl) (by rfl) ?_ hH ?_
  rotate_left
  · intro W hW; (try dsimp only at hW); go_simp <;> with_reducible rfl
  simp only [Act.put, List.setIfInBounds_toArray, List.set_cons_zero, List.set_cons_succ]
  refine hTake (i := 4) (v := ?_) rfl (by kernel_rfl) (by kernel_rfl) (by kernel_rfl) (by rfl) ?_ hH ?_
  rotate_left
  · intro W hW; (try dsimp only at hW); go_simp <;> with_reducible rfl
  simp only [Act.put, List.setIfInBounds_toArray, List.set_cons_zero, List.set_cons_succ]
  refine hTake (i := 5) (v := ?_) rfl (by kernel_rfl) (by kernel_rfl) (by kernel_rfl) (by rfl) ?_ hH ?_
  rotate_left
  · intro W hW; (try dsimp only at hW); go_simp <;> with_reducible rfl
  simp only [Act.put, List.setIfInBounds_toArray, List.set_cons_zero, List.set_cons_succ]
  refine hTake (i := 6) (v := ?_) rfl (by kernel_rfl) (by kernel_rfl) (by kernel_rfl) (by rfl) ?_ hH ?_
  rotate_left
  · intro W hW; (try dsimp only at hW); go_simp <;> with_reducible rfl
  simp only [Act.put, List.setIfInBounds_toArray, List.set_cons_zero, List.set_cons_succ]
  refine wpAnyH_ready (rs := [7]) (by kernel_rfl) (by simp) ?_
  refine AllReadyH.cons rfl (fun K hK => ?_) AllReadyH.nil
  go_simp
  have hc := isKey_any a
  rw [ha] at hc
  refine (hc _).mono ?_
  rintro e w9 ⟨rfl, rfl⟩
  refine hK.out _ _ ?_ (fun hH => ?_)
  · exact hH
  clear hK K
  refine hTake (i := 8) (v := ?_) rfl (by kernel_rfl) (by kernel_rfl) (by kernel_rfl) (by rfl) ?_ hH ?_
  rotate_left
  · intro W hW; (try dsimp only at hW); go_simp <;> with_reducible rfl
  simp only [Act.put, List.setIfInBounds_toArray, List.set_cons_zero, List.set_cons_succ]
  refine hTake (i := 9) (v := ?_) rfl (by kernel_rfl) (by kernel_rfl) (by kernel_rfl) (by rfl) ?_ hH ?_
  rotate_left
  · intro W hW; (try dsimp only at hW); go_simp <;> with_reducible rfl
  simp only [Act.put, List.setIfInBounds_toArray, List.set_cons_zero, List.set_cons_succ]
  refine hTake (i := 10) (v := ?_) rfl (by kernel_rfl) (by kernel_rfl) (by kernel_rfl) (by rfl) ?_ hH ?_
  rotate_left
  · intro W hW; (try dsimp only at hW); go_simp <;> with_reducible rfl
  simp only [Act.put, List.setIfInBounds_toArray, List.set_cons_zero, List.set_cons_succ]
  refine wpAnyH_ready (rs := [11]) (by kernel_rfl) (by simp) ?_
  refine AllReadyH.cons rfl (fun K hK => ?_) AllReadyH.nil
  go_simp
  refine (isKey_any _ _).mono ?_
  rintro e w9 ⟨rfl, rfl⟩
  refine hK.out _ _ ?_ (fun hH => ?_)
  · exact hH
  clear hK K
  refine hTake (i := 12) (v := ?_) rfl (by kernel_rfl) (by kernel_rfl) (by kernel_rfl) (by rfl) ?_ hH ?_
  rotate_left
  · intro W hW; (try dsimp only at hW); go_simp <;> with_reducible rfl
  simp only [Act.put, List.setIfInBounds_toArray, List.set_cons_zero, List.set_cons_succ]
  refine wpAnyH_ready (rs := [13]) (by kernel_rfl) (by simp) ?_
  refine AllReadyH.cons rfl (fun K hK => ?_) AllReadyH.nil
  go_simp
  refine hK.out _ _ ?_ (fun hH => ?_)
  · constructor <;> go_simp
  clear hK K
  refine hTake (i := 14) (v := ?_) rfl (by kernel_rfl) (by kernel_rfl) (by kernel_rfl) (by rfl) ?_ hH ?_
  rotate_left
  · intro W hW; (try dsimp only at hW); go_simp <;> with_reducible rfl
  simp only [Act.put, List.setIfInBounds_toArray, List.set_cons_zero, List.set_cons_succ]
  refine wpAnyH_done (by kernel_rfl) ?_ _
  refine NoPanic.normal ?_
  go_wp2
  refine bodyPost_ret (v := .tuple #[.agg #[.int .i64 0, .int .i64 a, .int .i64 b, .int .i64 0], .bool (Ch.inB b 0 99)]) (by simp [results, Try.results81, go_sem]) rfl ⟨rfl, ?_⟩
  repeat (first | with_reducible exact Below.refl _ _ | with_reducible refine Below.drew ?_ | with_reducible refine Below.alloc ?_ (by first | exact Nat.le_refl _ | (simp; done) | (simp; omega)) _ | with_reducible refine Below.setCell ?_ (by simp) _)

theorem fields_readAll (w : World) :
    Calls Try.prog 81 #[.iface 120 (.agg #[])] w fun e w' => e = .returned (.tuple #[.agg #[.int .i64 0, .int .i64 0, .int .i64 0, .int .i64 0], .bool true]) ∧ Below w.heap.size w w' := by
  have hta0 : ∀ W, (Instr.typeAssert (.iface 120 (.agg #[])) 99 111 true).run Try.prog W = .ok (.tuple #[.agg #[.int .i64 0], .bool false]) W := fun W => by kernel_rfl
  have hta1 : ∀ W, (Instr.typeAssert (.iface 120 (.agg #[])) 99 113 true).run Try.prog W = .ok (.tuple #[.agg #[.int .i64 0, .int .i64 0], .bool false]) W := fun W => by kernel_rfl
  have hta2 : ∀ W, (Instr.typeAssert (.iface 120 (.agg #[])) 99 114 true).run Try.prog W = .ok (.tuple #[.agg #[.int .i64 0], .bool false]) W := fun W => by kernel_rfl
  have hta3 : ∀ W, (Instr.typeAssert (.iface 120 (.agg #[])) 99 116 true).run Try.prog W = .ok (.tuple #[.agg #[.int .i64 0, .int .i64 0], .bool false]) W := fun W => by kernel_rfl
  have hta4 : ∀ W, (Instr.typeAssert (.iface 120 (.agg #[])) 99 118 true).run Try.prog W = .ok (.tuple #[.agg #[.int .i64 0], .bool false]) W := fun W => by kernel_rfl
  go_enter Try.func81, Try.ntmps81
  go_wp2
  refine bodyPost_ret (v := .tuple #[.agg #[.int .i64 0, .int .i64 0, .int .i64 0, .int .i64 0], .bool true]) (by simp [results, Try.results81, go_sem]) rfl ⟨rfl, ?_⟩
  repeat (first | with_reducible exact Below.refl _ _ | with_reducible refine Below.drew ?_ | with_reducible refine Below.alloc ?_ (by first | exact Nat.le_refl _ | (simp; done) | (simp; omega)) _ | with_reducible refine Below.setCell ?_ (by simp) _)

theorem fields_moveRows (w : World) :
    Calls Try.prog 81 #[.iface 121 (.agg #[])] w fun e w' => e = .returned (.tuple #[.agg #[.int .i64 0, .int .i64 0, .int .i64 0, .int .i64 0], .bool true]) ∧ Below w.heap.size w w' := by
  have hta0 : ∀ W, (Instr.typeAssert (.iface 121 (.agg #[])) 99 111 true).run Try.prog W = .ok (.tuple #[.agg #[.int .i64 0], .bool false]) W := fun W => by kernel_rfl
  have hta1 : ∀ W, (Instr.typeAssert (.iface 121 (.agg #[])) 99 113 true).run Try.prog W = .ok (.tuple #[.agg #[.int .i64 0, .int .i64 0], .bool false]) W := fun W => by kernel_rfl
  have hta2 : ∀ W, (Instr.typeAssert (.iface 121 (.agg #[])) 99 114 true).run Try.prog W = .ok (.tuple #[.agg #[.int .i64 0], .bool false]) W := fun W => by kernel_rfl
  have hta3 : ∀ W, (Instr.typeAssert (.iface 121 (.agg #[])) 99 116 true).run Try.prog W = .ok (.tuple #[.agg #[.int .i64 0, .int .i64 0], .bool false]) W := fun W => by kernel_rfl
  have hta4 : ∀ W, (Instr.typeAssert (.iface 121 (.agg #[])) 99 118 true).run Try.prog W = .ok (.tuple #[.agg #[.int .i64 0], .bool false]) W := fun W => by kernel_rfl
  go_enter Try.func81, Try.ntmps81
  go_wp2
  refine bodyPost_ret (v := .tuple #[.agg #[.int .i64 0, .int .i64 0, .int .i64 0, .int .i64 0], .bool true]) (by simp [results, Try.results81, go_sem]) rfl ⟨rfl, ?_⟩
  repeat (first | with_reducible exact Below.refl _ _ | with_reducible refine Below.drew ?_ | with_reducible refine Below.alloc ?_ (by first | exact Nat.le_refl _ | (simp; done) | (simp; omega)) _ | with_reducible refine Below.setCell ?_ (by simp) _)

theorem fields_endTxn (w : World) :
    Calls Try.prog 81 #[.iface 122 (.agg #[])] w fun e w' => e = .returned (.tuple #[.agg #[.int .i64 0, .int .i64 0, .int .i64 0, .int .i64 0], .bool true]) ∧ Below w.heap.size w w' := by
  have hta0 : ∀ W, (Instr.typeAssert (.iface 122 (.agg #[])) 99 111 true).run Try.prog W = .ok (.tuple #[.agg #[.int .i64 0], .bool false]) W := fun W => by kernel_rfl
  have hta1 : ∀ W, (Instr.typeAssert (.iface 122 (.agg #[])) 99 113 true).run Try.prog W = .ok (.tuple #[.agg #[.int .i64 0, .int .i64 0], .bool false]) W := fun W => by kernel_rfl
  have hta2 : ∀ W, (Instr.typeAssert (.iface 122 (.agg #[])) 99 114 true).run Try.prog W = .ok (.tuple #[.agg #[.int .i64 0], .bool false]) W := fun W => by kernel_rfl
  have hta3 : ∀ W, (Instr.typeAssert (.iface 122 (.agg #[])) 99 116 true).run Try.prog W = .ok (.tuple #[.agg #[.int .i64 0, .int .i64 0], .bool false]) W := fun W => by kernel_rfl
  have hta4 : ∀ W, (Instr.typeAssert (.iface 122 (.agg #[])) 99 118 true).run Try.prog W = .ok (.tuple #[.agg #[.int .i64 0], .bool false]) W := fun W => by kernel_rfl
  go_enter Try.func81, Try.ntmps81
  go_wp2
  refine bodyPost_ret (v := .tuple #[.agg #[.int .i64 0, .int .i64 0, .int .i64 0, .int .i64 0], .bool true]) (by simp [results, Try.results81, go_sem]) rfl ⟨rfl, ?_⟩
  repeat (first | with_reducible exact Below.refl _ _ | with_reducible refine Below.drew ?_ | with_reducible refine Below.alloc ?_ (by first | exact Nat.le_refl _ | (simp; done) | (simp; omega)) _ | with_reducible refine Below.setCell ?_ (by simp) _)

end Go.Proofs.Ytlpncikiaojmiaa


/- OpFault of the program, at every argument. -/
namespace Go.Proofs.Ytlpncikiaojmiaa
open Go.RowKit

set_option linter.unusedSimpArgs false in
set_option maxHeartbeats 1000000 in
theorem implOp_1_0 (a b v : Int) (ha : Ch.inB a 0 99 = false) (w : World) :
    Calls Try.prog 56 #[.agg #[.int .i64 1, .int .i64 a, .int .i64 b, .int .i64 v]] w fun e w' => e = .returned (.int .i64 3) ∧ Below w.heap.size w w' := by
  have hc := fun W => fields_readKey a W
  simp only [ha] at hc
  have ho := fun W => opOf_1 a b v W
  clear ha
  go_enter Try.func56, Try.ntmps56
  go_wp2_with fail
  refine (ho _).mono ?_
  rintro e w1 ⟨rfl, b1⟩
  have b1' := ((Below.refl _ w).alloc (Nat.le_refl _) _).trans (b1.mono (by simp))
  obtain ⟨cA, fA⟩ := bcell b1
  have x0 := cA w.heap.size 0 (by simp)
  have x1 := cA w.heap.size 1 (by simp)
  have x2 := cA w.heap.size 2 (by simp)
  have x3 := cA w.heap.size 3 (by simp)
  clear cA fA ho
  simp [go_sem] at x0 x1 x2 x3
  go_wp2_with fail
  refine (hc _).mono ?_
  rintro e w2 ⟨rfl, b2⟩
  have b2' := b1'.trans (b2.mono b1'.size)
  replace x0 := keep_cell b2 x0
  replace x1 := keep_cell b2 x1
  replace x2 := keep_cell b2 x2
  replace x3 := keep_cell b2 x3
  have hl := lt_of_cell x0
  clear hc b1 b1' b2
  go_wp2
  go_ret
  exact ⟨rfl, by repeat (first | with_reducible exact b2' | with_reducible refine Below.drew ?_ | with_reducible refine Below.alloc ?_ b2'.size _ | with_reducible refine Below.setCell ?_ b2'.size _)⟩

set_option linter.unusedSimpArgs false in
set_option maxHeartbeats 1000000 in
theorem implOp_1_1 (a b v : Int) (ha : Ch.inB a 0 99 = true) (zb : (b != 0) = true) (w : World) :
    Calls Try.prog 56 #[.agg #[.int .i64 1, .int .i64 a, .int .i64 b, .int .i64 v]] w fun e w' => e = .returned (.int .i64 1) ∧ Below w.heap.size w w' := by
  have hc := fun W => fields_readKey a W
  simp only [ha] at hc
  have ho := fun W => opOf_1 a b v W
  have hn : ∀ W, (binOp .neq 49 (.agg #[.int .i64 1, .int .i64 a, .int .i64 b, .int .i64 v]) (.agg #[.int .i64 1, .int .i64 a, .int .i64 0, .int .i64 0])).run Try.prog W = .ok (.bool true) W := fun W => by
    rw [neqOp]
    first | rfl | (congr 2; done) | (congr 2; simp_all)
  clear ha zb
  go_enter Try.func56, Try.ntmps56
  go_wp2_with fail
  refine (ho _).mono ?_
  rintro e w1 ⟨rfl, b1⟩
  have b1' := ((Below.refl _ w).alloc (Nat.le_refl _) _).trans (b1.mono (by simp))
  obtain ⟨cA, fA⟩ := bcell b1
  have x0 := cA w.heap.size 0 (by simp)
  have x1 := cA w.heap.size 1 (by simp)
  have x2 := cA w.heap.size 2 (by simp)
  have x3 := cA w.heap.size 3 (by simp)
  clear cA fA ho
  simp [go_sem] at x0 x1 x2 x3
  go_wp2_with fail
  refine (hc _).mono ?_
  rintro e w2 ⟨rfl, b2⟩
  have b2' := b1'.trans (b2.mono b1'.size)
  replace x0 := keep_cell b2 x0
  replace x1 := keep_cell b2 x1
  replace x2 := keep_cell b2 x2
  replace x3 := keep_cell b2 x3
  have hl := lt_of_cell x0
  clear hc b1 b1' b2
  go_wp2
  go_ret
  exact ⟨rfl, by repeat (first | with_reducible exact b2' | with_reducible refine Below.drew ?_ | with_reducible refine Below.alloc ?_ b2'.size _ | with_reducible refine Below.setCell ?_ b2'.size _)⟩

set_option linter.unusedSimpArgs false in
set_option maxHeartbeats 1000000 in
theorem implOp_1_2 (a v : Int) (ha : Ch.inB a 0 99 = true) (zv : (v != 0) = true) (w : World) :
    Calls Try.prog 56 #[.agg #[.int .i64 1, .int .i64 a, .int .i64 0, .int .i64 v]] w fun e w' => e = .returned (.int .i64 1) ∧ Below w.heap.size w w' := by
  have hc := fun W => fields_readKey a W
  simp only [ha] at hc
  have ho := fun W => opOf_1 a 0 v W
  have hn : ∀ W, (binOp .neq 49 (.agg #[.int .i64 1, .int .i64 a, .int .i64 0, .int .i64 v]) (.agg #[.int .i64 1, .int .i64 a, .int .i64 0, .int .i64 0])).run Try.prog W = .ok (.bool true) W := fun W => by
    rw [neqOp]
    first | rfl | (congr 2; done) | (congr 2; simp_all)
  clear ha zv
  go_enter Try.func56, Try.ntmps56
  go_wp2_with fail
  refine (ho _).mono ?_
  rintro e w1 ⟨rfl, b1⟩
  have b1' := ((Below.refl _ w).alloc (Nat.le_refl _) _).trans (b1.mono (by simp))
  obtain ⟨cA, fA⟩ := bcell b1
  have x0 := cA w.heap.size 0 (by simp)
  have x1 := cA w.heap.size 1 (by simp)
  have x2 := cA w.heap.size 2 (by simp)
  have x3 := cA w.heap.size 3 (by simp)
  clear cA fA ho
  simp [go_sem] at x0 x1 x2 x3
  go_wp2_with fail
  refine (hc _).mono ?_
  rintro e w2 ⟨rfl, b2⟩
  have b2' := b1'.trans (b2.mono b1'.size)
  replace x0 := keep_cell b2 x0
  replace x1 := keep_cell b2 x1
  replace x2 := keep_cell b2 x2
  replace x3 := keep_cell b2 x3
  have hl := lt_of_cell x0
  clear hc b1 b1' b2
  go_wp2
  go_ret
  exact ⟨rfl, by repeat (first | with_reducible exact b2' | with_reducible refine Below.drew ?_ | with_reducible refine Below.alloc ?_ b2'.size _ | with_reducible refine Below.setCell ?_ b2'.size _)⟩

set_option linter.unusedSimpArgs false in
set_option maxHeartbeats 1000000 in
theorem implOp_1_3 (a : Int) (ha : Ch.inB a 0 99 = true) (w : World) :
    Calls Try.prog 56 #[.agg #[.int .i64 1, .int .i64 a, .int .i64 0, .int .i64 0]] w fun e w' => e = .returned (.int .i64 0) ∧ Below w.heap.size w w' := by
  have hc := fun W => fields_readKey a W
  simp only [ha] at hc
  have ho := fun W => opOf_1 a 0 0 W
  have hn : ∀ W, (binOp .neq 49 (.agg #[.int .i64 1, .int .i64 a, .int .i64 0, .int .i64 0]) (.agg #[.int .i64 1, .int .i64 a, .int .i64 0, .int .i64 0])).run Try.prog W = .ok (.bool false) W := fun W => by
    rw [neqOp]
    first | rfl | (congr 2; done) | (congr 2; simp_all)
  clear ha
  go_enter Try.func56, Try.ntmps56
  go_wp2_with fail
  refine (ho _).mono ?_
  rintro e w1 ⟨rfl, b1⟩
  have b1' := ((Below.refl _ w).alloc (Nat.le_refl _) _).trans (b1.mono (by simp))
  obtain ⟨cA, fA⟩ := bcell b1
  have x0 := cA w.heap.size 0 (by simp)
  have x1 := cA w.heap.size 1 (by simp)
  have x2 := cA w.heap.size 2 (by simp)
  have x3 := cA w.heap.size 3 (by simp)
  clear cA fA ho
  simp [go_sem] at x0 x1 x2 x3
  go_wp2_with fail
  refine (hc _).mono ?_
  rintro e w2 ⟨rfl, b2⟩
  have b2' := b1'.trans (b2.mono b1'.size)
  replace x0 := keep_cell b2 x0
  replace x1 := keep_cell b2 x1
  replace x2 := keep_cell b2 x2
  replace x3 := keep_cell b2 x3
  have hl := lt_of_cell x0
  clear hc b1 b1' b2
  go_wp2
  go_ret
  exact ⟨rfl, by repeat (first | with_reducible exact b2' | with_reducible refine Below.drew ?_ | with_reducible refine Below.alloc ?_ b2'.size _ | with_reducible refine Below.setCell ?_ b2'.size _)⟩

set_option linter.unusedSimpArgs false in
set_option maxHeartbeats 1000000 in
theorem implOp_2_0 (a b v : Int) (ha : Ch.inB a 0 99 = false) (w : World) :
    Calls Try.prog 56 #[.agg #[.int .i64 2, .int .i64 a, .int .i64 b, .int .i64 v]] w fun e w' => e = .returned (.int .i64 3) ∧ Below w.heap.size w w' := by
  have hc := fun W => fields_setKey_no a v ha W
  have ho := fun W => opOf_2 a b v W
  clear ha
  go_enter Try.func56, Try.ntmps56
  go_wp2_with fail
  refine (ho _).mono ?_
  rintro e w1 ⟨rfl, b1⟩
  have b1' := ((Below.refl _ w).alloc (Nat.le_refl _) _).trans (b1.mono (by simp))
  obtain ⟨cA, fA⟩ := bcell b1
  have x0 := cA w.heap.size 0 (by simp)
  have x1 := cA w.heap.size 1 (by simp)
  have x2 := cA w.heap.size 2 (by simp)
  have x3 := cA w.heap.size 3 (by simp)
  clear cA fA ho
  simp [go_sem] at x0 x1 x2 x3
  go_wp2_with fail
  refine (hc _).mono ?_
  rintro e w2 ⟨rfl, b2⟩
  have b2' := b1'.trans (b2.mono b1'.size)
  replace x0 := keep_cell b2 x0
  replace x1 := keep_cell b2 x1
  replace x2 := keep_cell b2 x2
  replace x3 := keep_cell b2 x3
  have hl := lt_of_cell x0
  clear hc b1 b1' b2
  go_wp2
  go_ret
  exact ⟨rfl, by repeat (first | with_reducible exact b2' | with_reducible refine Below.drew ?_ | with_reducible refine Below.alloc ?_ b2'.size _ | with_reducible refine Below.setCell ?_ b2'.size _)⟩

set_option linter.unusedSimpArgs false in
set_option maxHeartbeats 1000000 in
theorem implOp_2_1 (a b v : Int) (ha : Ch.inB a 0 99 = true) (hv : Ch.inB v 0 9999 = false) (w : World) :
    Calls Try.prog 56 #[.agg #[.int .i64 2, .int .i64 a, .int .i64 b, .int .i64 v]] w fun e w' => e = .returned (.int .i64 3) ∧ Below w.heap.size w w' := by
  have hc := fun W => fields_setKey a v ha W
  simp only [hv] at hc
  have ho := fun W => opOf_2 a b v W
  clear ha hv
  go_enter Try.func56, Try.ntmps56
  go_wp2_with fail
  refine (ho _).mono ?_
  rintro e w1 ⟨rfl, b1⟩
  have b1' := ((Below.refl _ w).alloc (Nat.le_refl _) _).trans (b1.mono (by simp))
  obtain ⟨cA, fA⟩ := bcell b1
  have x0 := cA w.heap.size 0 (by simp)
  have x1 := cA w.heap.size 1 (by simp)
  have x2 := cA w.heap.size 2 (by simp)
  have x3 := cA w.heap.size 3 (by simp)
  clear cA fA ho
  simp [go_sem] at x0 x1 x2 x3
  go_wp2_with fail
  refine (hc _).mono ?_
  rintro e w2 ⟨rfl, b2⟩
  have b2' := b1'.trans (b2.mono b1'.size)
  replace x0 := keep_cell b2 x0
  replace x1 := keep_cell b2 x1
  replace x2 := keep_cell b2 x2
  replace x3 := keep_cell b2 x3
  have hl := lt_of_cell x0
  clear hc b1 b1' b2
  go_wp2
  go_ret
  exact ⟨rfl, by repeat (first | with_reducible exact b2' | with_reducible refine Below.drew ?_ | with_reducible refine Below.alloc ?_ b2'.size _ | with_reducible refine Below.setCell ?_ b2'.size _)⟩

set_option linter.unusedSimpArgs false in
set_option maxHeartbeats 1000000 in
theorem implOp_2_2 (a b v : Int) (ha : Ch.inB a 0 99 = true) (hv : Ch.inB v 0 9999 = true) (zb : (b != 0) = true) (w : World) :
    Calls Try.prog 56 #[.agg #[.int .i64 2, .int .i64 a, .int .i64 b, .int .i64 v]] w fun e w' => e = .returned (.int .i64 1) ∧ Below w.heap.size w w' := by
  have hc := fun W => fields_setKey a v ha W
  simp only [hv] at hc
  have ho := fun W => opOf_2 a b v W
  have hn : ∀ W, (binOp .neq 49 (.agg #[.int .i64 2, .int .i64 a, .int .i64 b, .int .i64 v]) (.agg #[.int .i64 2, .int .i64 a, .int .i64 0, .int .i64 v])).run Try.prog W = .ok (.bool true) W := fun W => by
    rw [neqOp]
    first | rfl | (congr 2; done) | (congr 2; simp_all)
  clear ha hv zb
  go_enter Try.func56, Try.ntmps56
  go_wp2_with fail
  refine (ho _).mono ?_
  rintro e w1 ⟨rfl, b1⟩
  have b1' := ((Below.refl _ w).alloc (Nat.le_refl _) _).trans (b1.mono (by simp))
  obtain ⟨cA, fA⟩ := bcell b1
  have x0 := cA w.heap.size 0 (by simp)
  have x1 := cA w.heap.size 1 (by simp)
  have x2 := cA w.heap.size 2 (by simp)
  have x3 := cA w.heap.size 3 (by simp)
  clear cA fA ho
  simp [go_sem] at x0 x1 x2 x3
  go_wp2_with fail
  refine (hc _).mono ?_
  rintro e w2 ⟨rfl, b2⟩
  have b2' := b1'.trans (b2.mono b1'.size)
  replace x0 := keep_cell b2 x0
  replace x1 := keep_cell b2 x1
  replace x2 := keep_cell b2 x2
  replace x3 := keep_cell b2 x3
  have hl := lt_of_cell x0
  clear hc b1 b1' b2
  go_wp2
  go_ret
  exact ⟨rfl, by repeat (first | with_reducible exact b2' | with_reducible refine Below.drew ?_ | with_reducible refine Below.alloc ?_ b2'.size _ | with_reducible refine Below.setCell ?_ b2'.size _)⟩

set_option linter.unusedSimpArgs false in
set_option maxHeartbeats 1000000 in
theorem implOp_2_3 (a v : Int) (ha : Ch.inB a 0 99 = true) (hv : Ch.inB v 0 9999 = true) (w : World) :
    Calls Try.prog 56 #[.agg #[.int .i64 2, .int .i64 a, .int .i64 0, .int .i64 v]] w fun e w' => e = .returned (.int .i64 0) ∧ Below w.heap.size w w' := by
  have hc := fun W => fields_setKey a v ha W
  simp only [hv] at hc
  have ho := fun W => opOf_2 a 0 v W
  have hn : ∀ W, (binOp .neq 49 (.agg #[.int .i64 2, .int .i64 a, .int .i64 0, .int .i64 v]) (.agg #[.int .i64 2, .int .i64 a, .int .i64 0, .int .i64 v])).run Try.prog W = .ok (.bool false) W := fun W => by
    rw [neqOp]
    first | rfl | (congr 2; done) | (congr 2; simp_all)
  clear ha hv
  go_enter Try.func56, Try.ntmps56
  go_wp2_with fail
  refine (ho _).mono ?_
  rintro e w1 ⟨rfl, b1⟩
  have b1' := ((Below.refl _ w).alloc (Nat.le_refl _) _).trans (b1.mono (by simp))
  obtain ⟨cA, fA⟩ := bcell b1
  have x0 := cA w.heap.size 0 (by simp)
  have x1 := cA w.heap.size 1 (by simp)
  have x2 := cA w.heap.size 2 (by simp)
  have x3 := cA w.heap.size 3 (by simp)
  clear cA fA ho
  simp [go_sem] at x0 x1 x2 x3
  go_wp2_with fail
  refine (hc _).mono ?_
  rintro e w2 ⟨rfl, b2⟩
  have b2' := b1'.trans (b2.mono b1'.size)
  replace x0 := keep_cell b2 x0
  replace x1 := keep_cell b2 x1
  replace x2 := keep_cell b2 x2
  replace x3 := keep_cell b2 x3
  have hl := lt_of_cell x0
  clear hc b1 b1' b2
  go_wp2
  go_ret
  exact ⟨rfl, by repeat (first | with_reducible exact b2' | with_reducible refine Below.drew ?_ | with_reducible refine Below.alloc ?_ b2'.size _ | with_reducible refine Below.setCell ?_ b2'.size _)⟩

set_option linter.unusedSimpArgs false in
set_option maxHeartbeats 1000000 in
theorem implOp_3_0 (a b v : Int) (ha : Ch.inB a 0 99 = false) (w : World) :
    Calls Try.prog 56 #[.agg #[.int .i64 3, .int .i64 a, .int .i64 b, .int .i64 v]] w fun e w' => e = .returned (.int .i64 3) ∧ Below w.heap.size w w' := by
  have hc := fun W => fields_emptyKey a W
  simp only [ha] at hc
  have ho := fun W => opOf_3 a b v W
  clear ha
  go_enter Try.func56, Try.ntmps56
  go_wp2_with fail
  refine (ho _).mono ?_
  rintro e w1 ⟨rfl, b1⟩
  have b1' := ((Below.refl _ w).alloc (Nat.le_refl _) _).trans (b1.mono (by simp))
  obtain ⟨cA, fA⟩ := bcell b1
  have x0 := cA w.heap.size 0 (by simp)
  have x1 := cA w.heap.size 1 (by simp)
  have x2 := cA w.heap.size 2 (by simp)
  have x3 := cA w.heap.size 3 (by simp)
  clear cA fA ho
  simp [go_sem] at x0 x1 x2 x3
  go_wp2_with fail
  refine (hc _).mono ?_
  rintro e w2 ⟨rfl, b2⟩
  have b2' := b1'.trans (b2.mono b1'.size)
  replace x0 := keep_cell b2 x0
  replace x1 := keep_cell b2 x1
  replace x2 := keep_cell b2 x2
  replace x3 := keep_cell b2 x3
  have hl := lt_of_cell x0
  clear hc b1 b1' b2
  go_wp2
  go_ret
  exact ⟨rfl, by repeat (first | with_reducible exact b2' | with_reducible refine Below.drew ?_ | with_reducible refine Below.alloc ?_ b2'.size _ | with_reducible refine Below.setCell ?_ b2'.size _)⟩

set_option linter.unusedSimpArgs false in
set_option maxHeartbeats 1000000 in
theorem implOp_3_1 (a b v : Int) (ha : Ch.inB a 0 99 = true) (zb : (b != 0) = true) (w : World) :
    Calls Try.prog 56 #[.agg #[.int .i64 3, .int .i64 a, .int .i64 b, .int .i64 v]] w fun e w' => e = .returned (.int .i64 1) ∧ Below w.heap.size w w' := by
  have hc := fun W => fields_emptyKey a W
  simp only [ha] at hc
  have ho := fun W => opOf_3 a b v W
  have hn : ∀ W, (binOp .neq 49 (.agg #[.int .i64 3, .int .i64 a, .int .i64 b, .int .i64 v]) (.agg #[.int .i64 3, .int .i64 a, .int .i64 0, .int .i64 0])).run Try.prog W = .ok (.bool true) W := fun W => by
    rw [neqOp]
    first | rfl | (congr 2; done) | (congr 2; simp_all)
  clear ha zb
  go_enter Try.func56, Try.ntmps56
  go_wp2_with fail
  refine (ho _).mono ?_
  rintro e w1 ⟨rfl, b1⟩
  have b1' := ((Below.refl _ w).alloc (Nat.le_refl _) _).trans (b1.mono (by simp))
  obtain ⟨cA, fA⟩ := bcell b1
  have x0 := cA w.heap.size 0 (by simp)
  have x1 := cA w.heap.size 1 (by simp)
  have x2 := cA w.heap.size 2 (by simp)
  have x3 := cA w.heap.size 3 (by simp)
  clear cA fA ho
  simp [go_sem] at x0 x1 x2 x3
  go_wp2_with fail
  refine (hc _).mono ?_
  rintro e w2 ⟨rfl, b2⟩
  have b2' := b1'.trans (b2.mono b1'.size)
  replace x0 := keep_cell b2 x0
  replace x1 := keep_cell b2 x1
  replace x2 := keep_cell b2 x2
  replace x3 := keep_cell b2 x3
  have hl := lt_of_cell x0
  clear hc b1 b1' b2
  go_wp2
  go_ret
  exact ⟨rfl, by repeat (first | with_reducible exact b2' | with_reducible refine Below.drew ?_ | with_reducible refine Below.alloc ?_ b2'.size _ | with_reducible refine Below.setCell ?_ b2'.size _)⟩

set_option linter.unusedSimpArgs false in
set_option maxHeartbeats 1000000 in
theorem implOp_3_2 (a v : Int) (ha : Ch.inB a 0 99 = true) (zv : (v != 0) = true) (w : World) :
    Calls Try.prog 56 #[.agg #[.int .i64 3, .int .i64 a, .int .i64 0, .int .i64 v]] w fun e w' => e = .returned (.int .i64 1) ∧ Below w.heap.size w w' := by
  have hc := fun W => fields_emptyKey a W
  simp only [ha] at hc
  have ho := fun W => opOf_3 a 0 v W
  have hn : ∀ W, (binOp .neq 49 (.agg #[.int .i64 3, .int .i64 a, .int .i64 0, .int .i64 v]) (.agg #[.int .i64 3, .int .i64 a, .int .i64 0, .int .i64 0])).run Try.prog W = .ok (.bool true) W := fun W => by
    rw [neqOp]
    first | rfl | (congr 2; done) | (congr 2; simp_all)
  clear ha zv
  go_enter Try.func56, Try.ntmps56
  go_wp2_with fail
  refine (ho _).mono ?_
  rintro e w1 ⟨rfl, b1⟩
  have b1' := ((Below.refl _ w).alloc (Nat.le_refl _) _).trans (b1.mono (by simp))
  obtain ⟨cA, fA⟩ := bcell b1
  have x0 := cA w.heap.size 0 (by simp)
  have x1 := cA w.heap.size 1 (by simp)
  have x2 := cA w.heap.size 2 (by simp)
  have x3 := cA w.heap.size 3 (by simp)
  clear cA fA ho
  simp [go_sem] at x0 x1 x2 x3
  go_wp2_with fail
  refine (hc _).mono ?_
  rintro e w2 ⟨rfl, b2⟩
  have b2' := b1'.trans (b2.mono b1'.size)
  replace x0 := keep_cell b2 x0
  replace x1 := keep_cell b2 x1
  replace x2 := keep_cell b2 x2
  replace x3 := keep_cell b2 x3
  have hl := lt_of_cell x0
  clear hc b1 b1' b2
  go_wp2
  go_ret
  exact ⟨rfl, by repeat (first | with_reducible exact b2' | with_reducible refine Below.drew ?_ | with_reducible refine Below.alloc ?_ b2'.size _ | with_reducible refine Below.setCell ?_ b2'.size _)⟩

set_option linter.unusedSimpArgs false in
set_option maxHeartbeats 1000000 in
theorem implOp_3_3 (a : Int) (ha : Ch.inB a 0 99 = true) (w : World) :
    Calls Try.prog 56 #[.agg #[.int .i64 3, .int .i64 a, .int .i64 0, .int .i64 0]] w fun e w' => e = .returned (.int .i64 0) ∧ Below w.heap.size w w' := by
  have hc := fun W => fields_emptyKey a W
  simp only [ha] at hc
  have ho := fun W => opOf_3 a 0 0 W
  have hn : ∀ W, (binOp .neq 49 (.agg #[.int .i64 3, .int .i64 a, .int .i64 0, .int .i64 0]) (.agg #[.int .i64 3, .int .i64 a, .int .i64 0, .int .i64 0])).run Try.prog W = .ok (.bool false) W := fun W => by
    rw [neqOp]
    first | rfl | (congr 2; done) | (congr 2; simp_all)
  clear ha
  go_enter Try.func56, Try.ntmps56
  go_wp2_with fail
  refine (ho _).mono ?_
  rintro e w1 ⟨rfl, b1⟩
  have b1' := ((Below.refl _ w).alloc (Nat.le_refl _) _).trans (b1.mono (by simp))
  obtain ⟨cA, fA⟩ := bcell b1
  have x0 := cA w.heap.size 0 (by simp)
  have x1 := cA w.heap.size 1 (by simp)
  have x2 := cA w.heap.size 2 (by simp)
  have x3 := cA w.heap.size 3 (by simp)
  clear cA fA ho
  simp [go_sem] at x0 x1 x2 x3
  go_wp2_with fail
  refine (hc _).mono ?_
  rintro e w2 ⟨rfl, b2⟩
  have b2' := b1'.trans (b2.mono b1'.size)
  replace x0 := keep_cell b2 x0
  replace x1 := keep_cell b2 x1
  replace x2 := keep_cell b2 x2
  replace x3 := keep_cell b2 x3
  have hl := lt_of_cell x0
  clear hc b1 b1' b2
  go_wp2
  go_ret
  exact ⟨rfl, by repeat (first | with_reducible exact b2' | with_reducible refine Below.drew ?_ | with_reducible refine Below.alloc ?_ b2'.size _ | with_reducible refine Below.setCell ?_ b2'.size _)⟩

set_option linter.unusedSimpArgs false in
set_option maxHeartbeats 1000000 in
theorem implOp_4_0 (a b v : Int) (ha : Ch.inB a 0 99 = false) (w : World) :
    Calls Try.prog 56 #[.agg #[.int .i64 4, .int .i64 a, .int .i64 b, .int .i64 v]] w fun e w' => e = .returned (.int .i64 3) ∧ Below w.heap.size w w' := by
  have hc := fun W => fields_readRange_no a b ha W
  have ho := fun W => opOf_4 a b v W
  clear ha
  go_enter Try.func56, Try.ntmps56
  go_wp2_with fail
  refine (ho _).mono ?_
  rintro e w1 ⟨rfl, b1⟩
  have b1' := ((Below.refl _ w).alloc (Nat.le_refl _) _).trans (b1.mono (by simp))
  obtain ⟨cA, fA⟩ := bcell b1
  have x0 := cA w.heap.size 0 (by simp)
  have x1 := cA w.heap.size 1 (by simp)
  have x2 := cA w.heap.size 2 (by simp)
  have x3 := cA w.heap.size 3 (by simp)
  clear cA fA ho
  simp [go_sem] at x0 x1 x2 x3
  go_wp2_with fail
  refine (hc _).mono ?_
  rintro e w2 ⟨rfl, b2⟩
  have b2' := b1'.trans (b2.mono b1'.size)
  replace x0 := keep_cell b2 x0
  replace x1 := keep_cell b2 x1
  replace x2 := keep_cell b2 x2
  replace x3 := keep_cell b2 x3
  have hl := lt_of_cell x0
  clear hc b1 b1' b2
  go_wp2
  go_ret
  exact ⟨rfl, by repeat (first | with_reducible exact b2' | with_reducible refine Below.drew ?_ | with_reducible refine Below.alloc ?_ b2'.size _ | with_reducible refine Below.setCell ?_ b2'.size _)⟩

set_option linter.unusedSimpArgs false in
set_option maxHeartbeats 1000000 in
theorem implOp_4_1 (a b v : Int) (ha : Ch.inB a 0 99 = true) (hb : Ch.inB b 0 99 = false) (w : World) :
    Calls Try.prog 56 #[.agg #[.int .i64 4, .int .i64 a, .int .i64 b, .int .i64 v]] w fun e w' => e = .returned (.int .i64 3) ∧ Below w.heap.size w w' := by
  have hc := fun W => fields_readRange a b ha W
  simp only [hb] at hc
  have ho := fun W => opOf_4 a b v W
  clear ha hb
  go_enter Try.func56, Try.ntmps56
  go_wp2_with fail
  refine (ho _).mono ?_
  rintro e w1 ⟨rfl, b1⟩
  have b1' := ((Below.refl _ w).alloc (Nat.le_refl _) _).trans (b1.mono (by simp))
  obtain ⟨cA, fA⟩ := bcell b1
  have x0 := cA w.heap.size 0 (by simp)
  have x1 := cA w.heap.size 1 (by simp)
  have x2 := cA w.heap.size 2 (by simp)
  have x3 := cA w.heap.size 3 (by simp)
  clear cA fA ho
  simp [go_sem] at x0 x1 x2 x3
  go_wp2_with fail
  refine (hc _).mono ?_
  rintro e w2 ⟨rfl, b2⟩
  have b2' := b1'.trans (b2.mono b1'.size)
  replace x0 := keep_cell b2 x0
  replace x1 := keep_cell b2 x1
  replace x2 := keep_cell b2 x2
  replace x3 := keep_cell b2 x3
  have hl := lt_of_cell x0
  clear hc b1 b1' b2
  go_wp2
  go_ret
  exact ⟨rfl, by repeat (first | with_reducible exact b2' | with_reducible refine Below.drew ?_ | with_reducible refine Below.alloc ?_ b2'.size _ | with_reducible refine Below.setCell ?_ b2'.size _)⟩

set_option linter.unusedSimpArgs false in
set_option maxHeartbeats 1000000 in
theorem implOp_4_2 (a b v : Int) (ha : Ch.inB a 0 99 = true) (hb : Ch.inB b 0 99 = true) (zv : (v != 0) = true) (w : World) :
    Calls Try.prog 56 #[.agg #[.int .i64 4, .int .i64 a, .int .i64 b, .int .i64 v]] w fun e w' => e = .returned (.int .i64 1) ∧ Below w.heap.size w w' := by
  have hc := fun W => fields_readRange a b ha W
  simp only [hb] at hc
  have ho := fun W => opOf_4 a b v W
  have hn : ∀ W, (binOp .neq 49 (.agg #[.int .i64 4, .int .i64 a, .int .i64 b, .int .i64 v]) (.agg #[.int .i64 4, .int .i64 a, .int .i64 b, .int .i64 0])).run Try.prog W = .ok (.bool true) W := fun W => by
    rw [neqOp]
    first | rfl | (congr 2; done) | (congr 2; simp_all)
  clear ha hb zv
  go_enter Try.func56, Try.ntmps56
  go_wp2_with fail
  refine (ho _).mono ?_
  rintro e w1 ⟨rfl, b1⟩
  have b1' := ((Below.refl _ w).alloc (Nat.le_refl _) _).trans (b1.mono (by simp))
  obtain ⟨cA, fA⟩ := bcell b1
  have x0 := cA w.heap.size 0 (by simp)
  have x1 := cA w.heap.size 1 (by simp)
  have x2 := cA w.heap.size 2 (by simp)
  have x3 := cA w.heap.size 3 (by simp)
  clear cA fA ho
  simp [go_sem] at x0 x1 x2 x3
  go_wp2_with fail
  refine (hc _).mono ?_
  rintro e w2 ⟨rfl, b2⟩
  have b2' := b1'.trans (b2.mono b1'.size)
  replace x0 := keep_cell b2 x0
  replace x1 := keep_cell b2 x1
  replace x2 := keep_cell b2 x2
  replace x3 := keep_cell b2 x3
  have hl := lt_of_cell x0
  clear hc b1 b1' b2
  go_wp2
  go_ret
  exact ⟨rfl, by repeat (first | with_reducible exact b2' | with_reducible refine Below.drew ?_ | with_reducible refine Below.alloc ?_ b2'.size _ | with_reducible refine Below.setCell ?_ b2'.size _)⟩

set_option linter.unusedSimpArgs false in
set_option maxHeartbeats 1000000 in
theorem implOp_4_3 (a b : Int) (ha : Ch.inB a 0 99 = true) (hb : Ch.inB b 0 99 = true) (w : World) :
    Calls Try.prog 56 #[.agg #[.int .i64 4, .int .i64 a, .int .i64 b, .int .i64 0]] w fun e w' => e = .returned (.int .i64 0) ∧ Below w.heap.size w w' := by
  have hc := fun W => fields_readRange a b ha W
  simp only [hb] at hc
  have ho := fun W => opOf_4 a b 0 W
  have hn : ∀ W, (binOp .neq 49 (.agg #[.int .i64 4, .int .i64 a, .int .i64 b, .int .i64 0]) (.agg #[.int .i64 4, .int .i64 a, .int .i64 b, .int .i64 0])).run Try.prog W = .ok (.bool false) W := fun W => by
    rw [neqOp]
    first | rfl | (congr 2; done) | (congr 2; simp_all)
  clear ha hb
  go_enter Try.func56, Try.ntmps56
  go_wp2_with fail
  refine (ho _).mono ?_
  rintro e w1 ⟨rfl, b1⟩
  have b1' := ((Below.refl _ w).alloc (Nat.le_refl _) _).trans (b1.mono (by simp))
  obtain ⟨cA, fA⟩ := bcell b1
  have x0 := cA w.heap.size 0 (by simp)
  have x1 := cA w.heap.size 1 (by simp)
  have x2 := cA w.heap.size 2 (by simp)
  have x3 := cA w.heap.size 3 (by simp)
  clear cA fA ho
  simp [go_sem] at x0 x1 x2 x3
  go_wp2_with fail
  refine (hc _).mono ?_
  rintro e w2 ⟨rfl, b2⟩
  have b2' := b1'.trans (b2.mono b1'.size)
  replace x0 := keep_cell b2 x0
  replace x1 := keep_cell b2 x1
  replace x2 := keep_cell b2 x2
  replace x3 := keep_cell b2 x3
  have hl := lt_of_cell x0
  clear hc b1 b1' b2
  go_wp2
  go_ret
  exact ⟨rfl, by repeat (first | with_reducible exact b2' | with_reducible refine Below.drew ?_ | with_reducible refine Below.alloc ?_ b2'.size _ | with_reducible refine Below.setCell ?_ b2'.size _)⟩

set_option linter.unusedSimpArgs false in
set_option maxHeartbeats 1000000 in
theorem implOp_5_0 (a b v : Int) (hv : Ch.inB v 0 9999 = false) (w : World) :
    Calls Try.prog 56 #[.agg #[.int .i64 5, .int .i64 a, .int .i64 b, .int .i64 v]] w fun e w' => e = .returned (.int .i64 3) ∧ Below w.heap.size w w' := by
  have hc := fun W => fields_readValue v W
  simp only [hv] at hc
  have ho := fun W => opOf_5 a b v W
  clear hv
  go_enter Try.func56, Try.ntmps56
  go_wp2_with fail
  refine (ho _).mono ?_
  rintro e w1 ⟨rfl, b1⟩
  have b1' := ((Below.refl _ w).alloc (Nat.le_refl _) _).trans (b1.mono (by simp))
  obtain ⟨cA, fA⟩ := bcell b1
  have x0 := cA w.heap.size 0 (by simp)
  have x1 := cA w.heap.size 1 (by simp)
  have x2 := cA w.heap.size 2 (by simp)
  have x3 := cA w.heap.size 3 (by simp)
  clear cA fA ho
  simp [go_sem] at x0 x1 x2 x3
  go_wp2_with fail
  refine (hc _).mono ?_
  rintro e w2 ⟨rfl, b2⟩
  have b2' := b1'.trans (b2.mono b1'.size)
  replace x0 := keep_cell b2 x0
  replace x1 := keep_cell b2 x1
  replace x2 := keep_cell b2 x2
  replace x3 := keep_cell b2 x3
  have hl := lt_of_cell x0
  clear hc b1 b1' b2
  go_wp2
  go_ret
  exact ⟨rfl, by repeat (first | with_reducible exact b2' | with_reducible refine Below.drew ?_ | with_reducible refine Below.alloc ?_ b2'.size _ | with_reducible refine Below.setCell ?_ b2'.size _)⟩

set_option linter.unusedSimpArgs false in
set_option maxHeartbeats 1000000 in
theorem implOp_5_1 (a b v : Int) (hv : Ch.inB v 0 9999 = true) (za : (a != 0) = true) (w : World) :
    Calls Try.prog 56 #[.agg #[.int .i64 5, .int .i64 a, .int .i64 b, .int .i64 v]] w fun e w' => e = .returned (.int .i64 1) ∧ Below w.heap.size w w' := by
  have hc := fun W => fields_readValue v W
  simp only [hv] at hc
  have ho := fun W => opOf_5 a b v W
  have hn : ∀ W, (binOp .neq 49 (.agg #[.int .i64 5, .int .i64 a, .int .i64 b, .int .i64 v]) (.agg #[.int .i64 5, .int .i64 0, .int .i64 0, .int .i64 v])).run Try.prog W = .ok (.bool true) W := fun W => by
    rw [neqOp]
    first | rfl | (congr 2; done) | (congr 2; simp_all)
  clear hv za
  go_enter Try.func56, Try.ntmps56
  go_wp2_with fail
  refine (ho _).mono ?_
  rintro e w1 ⟨rfl, b1⟩
  have b1' := ((Below.refl _ w).alloc (Nat.le_refl _) _).trans (b1.mono (by simp))
  obtain ⟨cA, fA⟩ := bcell b1
  have x0 := cA w.heap.size 0 (by simp)
  have x1 := cA w.heap.size 1 (by simp)
  have x2 := cA w.heap.size 2 (by simp)
  have x3 := cA w.heap.size 3 (by simp)
  clear cA fA ho
  simp [go_sem] at x0 x1 x2 x3
  go_wp2_with fail
  refine (hc _).mono ?_
  rintro e w2 ⟨rfl, b2⟩
  have b2' := b1'.trans (b2.mono b1'.size)
  replace x0 := keep_cell b2 x0
  replace x1 := keep_cell b2 x1
  replace x2 := keep_cell b2 x2
  replace x3 := keep_cell b2 x3
  have hl := lt_of_cell x0
  clear hc b1 b1' b2
  go_wp2
  go_ret
  exact ⟨rfl, by repeat (first | with_reducible exact b2' | with_reducible refine Below.drew ?_ | with_reducible refine Below.alloc ?_ b2'.size _ | with_reducible refine Below.setCell ?_ b2'.size _)⟩

set_option linter.unusedSimpArgs false in
set_option maxHeartbeats 1000000 in
theorem implOp_5_2 (b v : Int) (hv : Ch.inB v 0 9999 = true) (zb : (b != 0) = true) (w : World) :
    Calls Try.prog 56 #[.agg #[.int .i64 5, .int .i64 0, .int .i64 b, .int .i64 v]] w fun e w' => e = .returned (.int .i64 1) ∧ Below w.heap.size w w' := by
  have hc := fun W => fields_readValue v W
  simp only [hv] at hc
  have ho := fun W => opOf_5 0 b v W
  have hn : ∀ W, (binOp .neq 49 (.agg #[.int .i64 5, .int .i64 0, .int .i64 b, .int .i64 v]) (.agg #[.int .i64 5, .int .i64 0, .int .i64 0, .int .i64 v])).run Try.prog W = .ok (.bool true) W := fun W => by
    rw [neqOp]
    first | rfl | (congr 2; done) | (congr 2; simp_all)
  clear hv zb
  go_enter Try.func56, Try.ntmps56
  go_wp2_with fail
  refine (ho _).mono ?_
  rintro e w1 ⟨rfl, b1⟩
  have b1' := ((Below.refl _ w).alloc (Nat.le_refl _) _).trans (b1.mono (by simp))
  obtain ⟨cA, fA⟩ := bcell b1
  have x0 := cA w.heap.size 0 (by simp)
  have x1 := cA w.heap.size 1 (by simp)
  have x2 := cA w.heap.size 2 (by simp)
  have x3 := cA w.heap.size 3 (by simp)
  clear cA fA ho
  simp [go_sem] at x0 x1 x2 x3
  go_wp2_with fail
  refine (hc _).mono ?_
  rintro e w2 ⟨rfl, b2⟩
  have b2' := b1'.trans (b2.mono b1'.size)
  replace x0 := keep_cell b2 x0
  replace x1 := keep_cell b2 x1
  replace x2 := keep_cell b2 x2
  replace x3 := keep_cell b2 x3
  have hl := lt_of_cell x0
  clear hc b1 b1' b2
  go_wp2
  go_ret
  exact ⟨rfl, by repeat (first | with_reducible exact b2' | with_reducible refine Below.drew ?_ | with_reducible refine Below.alloc ?_ b2'.size _ | with_reducible refine Below.setCell ?_ b2'.size _)⟩

set_option linter.unusedSimpArgs false in
set_option maxHeartbeats 1000000 in
theorem implOp_5_3 (v : Int) (hv : Ch.inB v 0 9999 = true) (w : World) :
    Calls Try.prog 56 #[.agg #[.int .i64 5, .int .i64 0, .int .i64 0, .int .i64 v]] w fun e w' => e = .returned (.int .i64 0) ∧ Below w.heap.size w w' := by
  have hc := fun W => fields_readValue v W
  simp only [hv] at hc
  have ho := fun W => opOf_5 0 0 v W
  have hn : ∀ W, (binOp .neq 49 (.agg #[.int .i64 5, .int .i64 0, .int .i64 0, .int .i64 v]) (.agg #[.int .i64 5, .int .i64 0, .int .i64 0, .int .i64 v])).run Try.prog W = .ok (.bool false) W := fun W => by
    rw [neqOp]
    first | rfl | (congr 2; done) | (congr 2; simp_all)
  clear hv
  go_enter Try.func56, Try.ntmps56
  go_wp2_with fail
  refine (ho _).mono ?_
  rintro e w1 ⟨rfl, b1⟩
  have b1' := ((Below.refl _ w).alloc (Nat.le_refl _) _).trans (b1.mono (by simp))
  obtain ⟨cA, fA⟩ := bcell b1
  have x0 := cA w.heap.size 0 (by simp)
  have x1 := cA w.heap.size 1 (by simp)
  have x2 := cA w.heap.size 2 (by simp)
  have x3 := cA w.heap.size 3 (by simp)
  clear cA fA ho
  simp [go_sem] at x0 x1 x2 x3
  go_wp2_with fail
  refine (hc _).mono ?_
  rintro e w2 ⟨rfl, b2⟩
  have b2' := b1'.trans (b2.mono b1'.size)
  replace x0 := keep_cell b2 x0
  replace x1 := keep_cell b2 x1
  replace x2 := keep_cell b2 x2
  replace x3 := keep_cell b2 x3
  have hl := lt_of_cell x0
  clear hc b1 b1' b2
  go_wp2
  go_ret
  exact ⟨rfl, by repeat (first | with_reducible exact b2' | with_reducible refine Below.drew ?_ | with_reducible refine Below.alloc ?_ b2'.size _ | with_reducible refine Below.setCell ?_ b2'.size _)⟩

set_option linter.unusedSimpArgs false in
set_option maxHeartbeats 1000000 in
theorem implOp_6_0 (a b v : Int) (za : (a != 0) = true) (w : World) :
    Calls Try.prog 56 #[.agg #[.int .i64 6, .int .i64 a, .int .i64 b, .int .i64 v]] w fun e w' => e = .returned (.int .i64 1) ∧ Below w.heap.size w w' := by
  have hc := fun W => fields_endTxn W
  have ho := fun W => opOf_6 a b v W
  have hn : ∀ W, (binOp .neq 49 (.agg #[.int .i64 6, .int .i64 a, .int .i64 b, .int .i64 v]) (.agg #[.int .i64 6, .int .i64 0, .int .i64 0, .int .i64 0])).run Try.prog W = .ok (.bool true) W := fun W => by
    rw [neqOp]
    first | rfl | (congr 2; done) | (congr 2; simp_all)
  clear za
  go_enter Try.func56, Try.ntmps56
  go_wp2_with fail
  refine (ho _).mono ?_
  rintro e w1 ⟨rfl, b1⟩
  have b1' := ((Below.refl _ w).alloc (Nat.le_refl _) _).trans (b1.mono (by simp))
  obtain ⟨cA, fA⟩ := bcell b1
  have x0 := cA w.heap.size 0 (by simp)
  have x1 := cA w.heap.size 1 (by simp)
  have x2 := cA w.heap.size 2 (by simp)
  have x3 := cA w.heap.size 3 (by simp)
  clear cA fA ho
  simp [go_sem] at x0 x1 x2 x3
  go_wp2_with fail
  refine (hc _).mono ?_
  rintro e w2 ⟨rfl, b2⟩
  have b2' := b1'.trans (b2.mono b1'.size)
  replace x0 := keep_cell b2 x0
  replace x1 := keep_cell b2 x1
  replace x2 := keep_cell b2 x2
  replace x3 := keep_cell b2 x3
  have hl := lt_of_cell x0
  clear hc b1 b1' b2
  go_wp2
  go_ret
  exact ⟨rfl, by repeat (first | with_reducible exact b2' | with_reducible refine Below.drew ?_ | with_reducible refine Below.alloc ?_ b2'.size _ | with_reducible refine Below.setCell ?_ b2'.size _)⟩

set_option linter.unusedSimpArgs false in
set_option maxHeartbeats 1000000 in
theorem implOp_6_1 (b v : Int) (zb : (b != 0) = true) (w : World) :
    Calls Try.prog 56 #[.agg #[.int .i64 6, .int .i64 0, .int .i64 b, .int .i64 v]] w fun e w' => e = .returned (.int .i64 1) ∧ Below w.heap.size w w' := by
  have hc := fun W => fields_endTxn W
  have ho := fun W => opOf_6 0 b v W
  have hn : ∀ W, (binOp .neq 49 (.agg #[.int .i64 6, .int .i64 0, .int .i64 b, .int .i64 v]) (.agg #[.int .i64 6, .int .i64 0, .int .i64 0, .int .i64 0])).run Try.prog W = .ok (.bool true) W := fun W => by
    rw [neqOp]
    first | rfl | (congr 2; done) | (congr 2; simp_all)
  clear zb
  go_enter Try.func56, Try.ntmps56
  go_wp2_with fail
  refine (ho _).mono ?_
  rintro e w1 ⟨rfl, b1⟩
  have b1' := ((Below.refl _ w).alloc (Nat.le_refl _) _).trans (b1.mono (by simp))
  obtain ⟨cA, fA⟩ := bcell b1
  have x0 := cA w.heap.size 0 (by simp)
  have x1 := cA w.heap.size 1 (by simp)
  have x2 := cA w.heap.size 2 (by simp)
  have x3 := cA w.heap.size 3 (by simp)
  clear cA fA ho
  simp [go_sem] at x0 x1 x2 x3
  go_wp2_with fail
  refine (hc _).mono ?_
  rintro e w2 ⟨rfl, b2⟩
  have b2' := b1'.trans (b2.mono b1'.size)
  replace x0 := keep_cell b2 x0
  replace x1 := keep_cell b2 x1
  replace x2 := keep_cell b2 x2
  replace x3 := keep_cell b2 x3
  have hl := lt_of_cell x0
  clear hc b1 b1' b2
  go_wp2
  go_ret
  exact ⟨rfl, by repeat (first | with_reducible exact b2' | with_reducible refine Below.drew ?_ | with_reducible refine Below.alloc ?_ b2'.size _ | with_reducible refine Below.setCell ?_ b2'.size _)⟩

set_option linter.unusedSimpArgs false in
set_option maxHeartbeats 1000000 in
theorem implOp_6_2 (v : Int) (zv : (v != 0) = true) (w : World) :
    Calls Try.prog 56 #[.agg #[.int .i64 6, .int .i64 0, .int .i64 0, .int .i64 v]] w fun e w' => e = .returned (.int .i64 1) ∧ Below w.heap.size w w' := by
  have hc := fun W => fields_endTxn W
  have ho := fun W => opOf_6 0 0 v W
  have hn : ∀ W, (binOp .neq 49 (.agg #[.int .i64 6, .int .i64 0, .int .i64 0, .int .i64 v]) (.agg #[.int .i64 6, .int .i64 0, .int .i64 0, .int .i64 0])).run Try.prog W = .ok (.bool true) W := fun W => by
    rw [neqOp]
    first | rfl | (congr 2; done) | (congr 2; simp_all)
  clear zv
  go_enter Try.func56, Try.ntmps56
  go_wp2_with fail
  refine (ho _).mono ?_
  rintro e w1 ⟨rfl, b1⟩
  have b1' := ((Below.refl _ w).alloc (Nat.le_refl _) _).trans (b1.mono (by simp))
  obtain ⟨cA, fA⟩ := bcell b1
  have x0 := cA w.heap.size 0 (by simp)
  have x1 := cA w.heap.size 1 (by simp)
  have x2 := cA w.heap.size 2 (by simp)
  have x3 := cA w.heap.size 3 (by simp)
  clear cA fA ho
  simp [go_sem] at x0 x1 x2 x3
  go_wp2_with fail
  refine (hc _).mono ?_
  rintro e w2 ⟨rfl, b2⟩
  have b2' := b1'.trans (b2.mono b1'.size)
  replace x0 := keep_cell b2 x0
  replace x1 := keep_cell b2 x1
  replace x2 := keep_cell b2 x2
  replace x3 := keep_cell b2 x3
  have hl := lt_of_cell x0
  clear hc b1 b1' b2
  go_wp2
  go_ret
  exact ⟨rfl, by repeat (first | with_reducible exact b2' | with_reducible refine Below.drew ?_ | with_reducible refine Below.alloc ?_ b2'.size _ | with_reducible refine Below.setCell ?_ b2'.size _)⟩

set_option linter.unusedSimpArgs false in
set_option maxHeartbeats 1000000 in
theorem implOp_6_3 (w : World) :
    Calls Try.prog 56 #[.agg #[.int .i64 6, .int .i64 0, .int .i64 0, .int .i64 0]] w fun e w' => e = .returned (.int .i64 0) ∧ Below w.heap.size w w' := by
  have hc := fun W => fields_endTxn W
  have ho := fun W => opOf_6 0 0 0 W
  have hn : ∀ W, (binOp .neq 49 (.agg #[.int .i64 6, .int .i64 0, .int .i64 0, .int .i64 0]) (.agg #[.int .i64 6, .int .i64 0, .int .i64 0, .int .i64 0])).run Try.prog W = .ok (.bool false) W := fun W => by
    rw [neqOp]
    first | rfl | (congr 2; done) | (congr 2; simp_all)
  go_enter Try.func56, Try.ntmps56
  go_wp2_with fail
  refine (ho _).mono ?_
  rintro e w1 ⟨rfl, b1⟩
  have b1' := ((Below.refl _ w).alloc (Nat.le_refl _) _).trans (b1.mono (by simp))
  obtain ⟨cA, fA⟩ := bcell b1
  have x0 := cA w.heap.size 0 (by simp)
  have x1 := cA w.heap.size 1 (by simp)
  have x2 := cA w.heap.size 2 (by simp)
  have x3 := cA w.heap.size 3 (by simp)
  clear cA fA ho
  simp [go_sem] at x0 x1 x2 x3
  go_wp2_with fail
  refine (hc _).mono ?_
  rintro e w2 ⟨rfl, b2⟩
  have b2' := b1'.trans (b2.mono b1'.size)
  replace x0 := keep_cell b2 x0
  replace x1 := keep_cell b2 x1
  replace x2 := keep_cell b2 x2
  replace x3 := keep_cell b2 x3
  have hl := lt_of_cell x0
  clear hc b1 b1' b2
  go_wp2
  go_ret
  exact ⟨rfl, by repeat (first | with_reducible exact b2' | with_reducible refine Below.drew ?_ | with_reducible refine Below.alloc ?_ b2'.size _ | with_reducible refine Below.setCell ?_ b2'.size _)⟩

set_option linter.unusedSimpArgs false in
set_option maxHeartbeats 1000000 in
theorem implOp_7_0 (a b v : Int) (za : (a != 0) = true) (w : World) :
    Calls Try.prog 56 #[.agg #[.int .i64 7, .int .i64 a, .int .i64 b, .int .i64 v]] w fun e w' => e = .returned (.int .i64 1) ∧ Below w.heap.size w w' := by
  have hc := fun W => fields_endTxn W
  have ho := fun W => opOf_7 a b v W
  have hn : ∀ W, (binOp .neq 49 (.agg #[.int .i64 7, .int .i64 a, .int .i64 b, .int .i64 v]) (.agg #[.int .i64 7, .int .i64 0, .int .i64 0, .int .i64 0])).run Try.prog W = .ok (.bool true) W := fun W => by
    rw [neqOp]
    first | rfl | (congr 2; done) | (congr 2; simp_all)
  clear za
  go_enter Try.func56, Try.ntmps56
  go_wp2_with fail
  refine (ho _).mono ?_
  rintro e w1 ⟨rfl, b1⟩
  have b1' := ((Below.refl _ w).alloc (Nat.le_refl _) _).trans (b1.mono (by simp))
  obtain ⟨cA, fA⟩ := bcell b1
  have x0 := cA w.heap.size 0 (by simp)
  have x1 := cA w.heap.size 1 (by simp)
  have x2 := cA w.heap.size 2 (by simp)
  have x3 := cA w.heap.size 3 (by simp)
  clear cA fA ho
  simp [go_sem] at x0 x1 x2 x3
  go_wp2_with fail
  refine (hc _).mono ?_
  rintro e w2 ⟨rfl, b2⟩
  have b2' := b1'.trans (b2.mono b1'.size)
  replace x0 := keep_cell b2 x0
  replace x1 := keep_cell b2 x1
  replace x2 := keep_cell b2 x2
  replace x3 := keep_cell b2 x3
  have hl := lt_of_cell x0
  clear hc b1 b1' b2
  go_wp2
  go_ret
  exact ⟨rfl, by repeat (first | with_reducible exact b2' | with_reducible refine Below.drew ?_ | with_reducible refine Below.alloc ?_ b2'.size _ | with_reducible refine Below.setCell ?_ b2'.size _)⟩

set_option linter.unusedSimpArgs false in
set_option maxHeartbeats 1000000 in
theorem implOp_7_1 (b v : Int) (zb : (b != 0) = true) (w : World) :
    Calls Try.prog 56 #[.agg #[.int .i64 7, .int .i64 0, .int .i64 b, .int .i64 v]] w fun e w' => e = .returned (.int .i64 1) ∧ Below w.heap.size w w' := by
  have hc := fun W => fields_endTxn W
  have ho := fun W => opOf_7 0 b v W
  have hn : ∀ W, (binOp .neq 49 (.agg #[.int .i64 7, .int .i64 0, .int .i64 b, .int .i64 v]) (.agg #[.int .i64 7, .int .i64 0, .int .i64 0, .int .i64 0])).run Try.prog W = .ok (.bool true) W := fun W => by
    rw [neqOp]
    first | rfl | (congr 2; done) | (congr 2; simp_all)
  clear zb
  go_enter Try.func56, Try.ntmps56
  go_wp2_with fail
  refine (ho _).mono ?_
  rintro e w1 ⟨rfl, b1⟩
  have b1' := ((Below.refl _ w).alloc (Nat.le_refl _) _).trans (b1.mono (by simp))
  obtain ⟨cA, fA⟩ := bcell b1
  have x0 := cA w.heap.size 0 (by simp)
  have x1 := cA w.heap.size 1 (by simp)
  have x2 := cA w.heap.size 2 (by simp)
  have x3 := cA w.heap.size 3 (by simp)
  clear cA fA ho
  simp [go_sem] at x0 x1 x2 x3
  go_wp2_with fail
  refine (hc _).mono ?_
  rintro e w2 ⟨rfl, b2⟩
  have b2' := b1'.trans (b2.mono b1'.size)
  replace x0 := keep_cell b2 x0
  replace x1 := keep_cell b2 x1
  replace x2 := keep_cell b2 x2
  replace x3 := keep_cell b2 x3
  have hl := lt_of_cell x0
  clear hc b1 b1' b2
  go_wp2
  go_ret
  exact ⟨rfl, by repeat (first | with_reducible exact b2' | with_reducible refine Below.drew ?_ | with_reducible refine Below.alloc ?_ b2'.size _ | with_reducible refine Below.setCell ?_ b2'.size _)⟩

set_option linter.unusedSimpArgs false in
set_option maxHeartbeats 1000000 in
theorem implOp_7_2 (v : Int) (zv : (v != 0) = true) (w : World) :
    Calls Try.prog 56 #[.agg #[.int .i64 7, .int .i64 0, .int .i64 0, .int .i64 v]] w fun e w' => e = .returned (.int .i64 1) ∧ Below w.heap.size w w' := by
  have hc := fun W => fields_endTxn W
  have ho := fun W => opOf_7 0 0 v W
  have hn : ∀ W, (binOp .neq 49 (.agg #[.int .i64 7, .int .i64 0, .int .i64 0, .int .i64 v]) (.agg #[.int .i64 7, .int .i64 0, .int .i64 0, .int .i64 0])).run Try.prog W = .ok (.bool true) W := fun W => by
    rw [neqOp]
    first | rfl | (congr 2; done) | (congr 2; simp_all)
  clear zv
  go_enter Try.func56, Try.ntmps56
  go_wp2_with fail
  refine (ho _).mono ?_
  rintro e w1 ⟨rfl, b1⟩
  have b1' := ((Below.refl _ w).alloc (Nat.le_refl _) _).trans (b1.mono (by simp))
  obtain ⟨cA, fA⟩ := bcell b1
  have x0 := cA w.heap.size 0 (by simp)
  have x1 := cA w.heap.size 1 (by simp)
  have x2 := cA w.heap.size 2 (by simp)
  have x3 := cA w.heap.size 3 (by simp)
  clear cA fA ho
  simp [go_sem] at x0 x1 x2 x3
  go_wp2_with fail
  refine (hc _).mono ?_
  rintro e w2 ⟨rfl, b2⟩
  have b2' := b1'.trans (b2.mono b1'.size)
  replace x0 := keep_cell b2 x0
  replace x1 := keep_cell b2 x1
  replace x2 := keep_cell b2 x2
  replace x3 := keep_cell b2 x3
  have hl := lt_of_cell x0
  clear hc b1 b1' b2
  go_wp2
  go_ret
  exact ⟨rfl, by repeat (first | with_reducible exact b2' | with_reducible refine Below.drew ?_ | with_reducible refine Below.alloc ?_ b2'.size _ | with_reducible refine Below.setCell ?_ b2'.size _)⟩

set_option linter.unusedSimpArgs false in
set_option maxHeartbeats 1000000 in
theorem implOp_7_3 (w : World) :
    Calls Try.prog 56 #[.agg #[.int .i64 7, .int .i64 0, .int .i64 0, .int .i64 0]] w fun e w' => e = .returned (.int .i64 0) ∧ Below w.heap.size w w' := by
  have hc := fun W => fields_endTxn W
  have ho := fun W => opOf_7 0 0 0 W
  have hn : ∀ W, (binOp .neq 49 (.agg #[.int .i64 7, .int .i64 0, .int .i64 0, .int .i64 0]) (.agg #[.int .i64 7, .int .i64 0, .int .i64 0, .int .i64 0])).run Try.prog W = .ok (.bool false) W := fun W => by
    rw [neqOp]
    first | rfl | (congr 2; done) | (congr 2; simp_all)
  go_enter Try.func56, Try.ntmps56
  go_wp2_with fail
  refine (ho _).mono ?_
  rintro e w1 ⟨rfl, b1⟩
  have b1' := ((Below.refl _ w).alloc (Nat.le_refl _) _).trans (b1.mono (by simp))
  obtain ⟨cA, fA⟩ := bcell b1
  have x0 := cA w.heap.size 0 (by simp)
  have x1 := cA w.heap.size 1 (by simp)
  have x2 := cA w.heap.size 2 (by simp)
  have x3 := cA w.heap.size 3 (by simp)
  clear cA fA ho
  simp [go_sem] at x0 x1 x2 x3
  go_wp2_with fail
  refine (hc _).mono ?_
  rintro e w2 ⟨rfl, b2⟩
  have b2' := b1'.trans (b2.mono b1'.size)
  replace x0 := keep_cell b2 x0
  replace x1 := keep_cell b2 x1
  replace x2 := keep_cell b2 x2
  replace x3 := keep_cell b2 x3
  have hl := lt_of_cell x0
  clear hc b1 b1' b2
  go_wp2
  go_ret
  exact ⟨rfl, by repeat (first | with_reducible exact b2' | with_reducible refine Below.drew ?_ | with_reducible refine Below.alloc ?_ b2'.size _ | with_reducible refine Below.setCell ?_ b2'.size _)⟩

set_option linter.unusedSimpArgs false in
set_option maxHeartbeats 1000000 in
theorem implOp_8_0 (a b v : Int) (ha : Ch.inB a 0 99 = false) (w : World) :
    Calls Try.prog 56 #[.agg #[.int .i64 8, .int .i64 a, .int .i64 b, .int .i64 v]] w fun e w' => e = .returned (.int .i64 3) ∧ Below w.heap.size w w' := by
  have hc := fun W => fields_emptyKey a W
  simp only [ha] at hc
  have ho := fun W => opOf_8 a b v W
  clear ha
  go_enter Try.func56, Try.ntmps56
  go_wp2_with fail
  refine (ho _).mono ?_
  rintro e w1 ⟨rfl, b1⟩
  have b1' := ((Below.refl _ w).alloc (Nat.le_refl _) _).trans (b1.mono (by simp))
  obtain ⟨cA, fA⟩ := bcell b1
  have x0 := cA w.heap.size 0 (by simp)
  have x1 := cA w.heap.size 1 (by simp)
  have x2 := cA w.heap.size 2 (by simp)
  have x3 := cA w.heap.size 3 (by simp)
  clear cA fA ho
  simp [go_sem] at x0 x1 x2 x3
  go_wp2_with fail
  refine (hc _).mono ?_
  rintro e w2 ⟨rfl, b2⟩
  have b2' := b1'.trans (b2.mono b1'.size)
  replace x0 := keep_cell b2 x0
  replace x1 := keep_cell b2 x1
  replace x2 := keep_cell b2 x2
  replace x3 := keep_cell b2 x3
  have hl := lt_of_cell x0
  clear hc b1 b1' b2
  go_wp2
  go_ret
  exact ⟨rfl, by repeat (first | with_reducible exact b2' | with_reducible refine Below.drew ?_ | with_reducible refine Below.alloc ?_ b2'.size _ | with_reducible refine Below.setCell ?_ b2'.size _)⟩

set_option linter.unusedSimpArgs false in
set_option maxHeartbeats 1000000 in
theorem implOp_8_1 (a b v : Int) (ha : Ch.inB a 0 99 = true) (zb : (b != 0) = true) (w : World) :
    Calls Try.prog 56 #[.agg #[.int .i64 8, .int .i64 a, .int .i64 b, .int .i64 v]] w fun e w' => e = .returned (.int .i64 1) ∧ Below w.heap.size w w' := by
  have hc := fun W => fields_emptyKey a W
  simp only [ha] at hc
  have ho := fun W => opOf_8 a b v W
  have hn : ∀ W, (binOp .neq 49 (.agg #[.int .i64 8, .int .i64 a, .int .i64 b, .int .i64 v]) (.agg #[.int .i64 8, .int .i64 a, .int .i64 0, .int .i64 0])).run Try.prog W = .ok (.bool true) W := fun W => by
    rw [neqOp]
    first | rfl | (congr 2; done) | (congr 2; simp_all)
  clear ha zb
  go_enter Try.func56, Try.ntmps56
  go_wp2_with fail
  refine (ho _).mono ?_
  rintro e w1 ⟨rfl, b1⟩
  have b1' := ((Below.refl _ w).alloc (Nat.le_refl _) _).trans (b1.mono (by simp))
  obtain ⟨cA, fA⟩ := bcell b1
  have x0 := cA w.heap.size 0 (by simp)
  have x1 := cA w.heap.size 1 (by simp)
  have x2 := cA w.heap.size 2 (by simp)
  have x3 := cA w.heap.size 3 (by simp)
  clear cA fA ho
  simp [go_sem] at x0 x1 x2 x3
  go_wp2_with fail
  refine (hc _).mono ?_
  rintro e w2 ⟨rfl, b2⟩
  have b2' := b1'.trans (b2.mono b1'.size)
  replace x0 := keep_cell b2 x0
  replace x1 := keep_cell b2 x1
  replace x2 := keep_cell b2 x2
  replace x3 := keep_cell b2 x3
  have hl := lt_of_cell x0
  clear hc b1 b1' b2
  go_wp2
  go_ret
  exact ⟨rfl, by repeat (first | with_reducible exact b2' | with_reducible refine Below.drew ?_ | with_reducible refine Below.alloc ?_ b2'.size _ | with_reducible refine Below.setCell ?_ b2'.size _)⟩

set_option linter.unusedSimpArgs false in
set_option maxHeartbeats 1000000 in
theorem implOp_8_2 (a v : Int) (ha : Ch.inB a 0 99 = true) (zv : (v != 0) = true) (w : World) :
    Calls Try.prog 56 #[.agg #[.int .i64 8, .int .i64 a, .int .i64 0, .int .i64 v]] w fun e w' => e = .returned (.int .i64 1) ∧ Below w.heap.size w w' := by
  have hc := fun W => fields_emptyKey a W
  simp only [ha] at hc
  have ho := fun W => opOf_8 a 0 v W
  have hn : ∀ W, (binOp .neq 49 (.agg #[.int .i64 8, .int .i64 a, .int .i64 0, .int .i64 v]) (.agg #[.int .i64 8, .int .i64 a, .int .i64 0, .int .i64 0])).run Try.prog W = .ok (.bool true) W := fun W => by
    rw [neqOp]
    first | rfl | (congr 2; done) | (congr 2; simp_all)
  clear ha zv
  go_enter Try.func56, Try.ntmps56
  go_wp2_with fail
  refine (ho _).mono ?_
  rintro e w1 ⟨rfl, b1⟩
  have b1' := ((Below.refl _ w).alloc (Nat.le_refl _) _).trans (b1.mono (by simp))
  obtain ⟨cA, fA⟩ := bcell b1
  have x0 := cA w.heap.size 0 (by simp)
  have x1 := cA w.heap.size 1 (by simp)
  have x2 := cA w.heap.size 2 (by simp)
  have x3 := cA w.heap.size 3 (by simp)
  clear cA fA ho
  simp [go_sem] at x0 x1 x2 x3
  go_wp2_with fail
  refine (hc _).mono ?_
  rintro e w2 ⟨rfl, b2⟩
  have b2' := b1'.trans (b2.mono b1'.size)
  replace x0 := keep_cell b2 x0
  replace x1 := keep_cell b2 x1
  replace x2 := keep_cell b2 x2
  replace x3 := keep_cell b2 x3
  have hl := lt_of_cell x0
  clear hc b1 b1' b2
  go_wp2
  go_ret
  exact ⟨rfl, by repeat (first | with_reducible exact b2' | with_reducible refine Below.drew ?_ | with_reducible refine Below.alloc ?_ b2'.size _ | with_reducible refine Below.setCell ?_ b2'.size _)⟩

set_option linter.unusedSimpArgs false in
set_option maxHeartbeats 1000000 in
theorem implOp_8_3 (a : Int) (ha : Ch.inB a 0 99 = true) (w : World) :
    Calls Try.prog 56 #[.agg #[.int .i64 8, .int .i64 a, .int .i64 0, .int .i64 0]] w fun e w' => e = .returned (.int .i64 0) ∧ Below w.heap.size w w' := by
  have hc := fun W => fields_emptyKey a W
  simp only [ha] at hc
  have ho := fun W => opOf_8 a 0 0 W
  have hn : ∀ W, (binOp .neq 49 (.agg #[.int .i64 8, .int .i64 a, .int .i64 0, .int .i64 0]) (.agg #[.int .i64 8, .int .i64 a, .int .i64 0, .int .i64 0])).run Try.prog W = .ok (.bool false) W := fun W => by
    rw [neqOp]
    first | rfl | (congr 2; done) | (congr 2; simp_all)
  clear ha
  go_enter Try.func56, Try.ntmps56
  go_wp2_with fail
  refine (ho _).mono ?_
  rintro e w1 ⟨rfl, b1⟩
  have b1' := ((Below.refl _ w).alloc (Nat.le_refl _) _).trans (b1.mono (by simp))
  obtain ⟨cA, fA⟩ := bcell b1
  have x0 := cA w.heap.size 0 (by simp)
  have x1 := cA w.heap.size 1 (by simp)
  have x2 := cA w.heap.size 2 (by simp)
  have x3 := cA w.heap.size 3 (by simp)
  clear cA fA ho
  simp [go_sem] at x0 x1 x2 x3
  go_wp2_with fail
  refine (hc _).mono ?_
  rintro e w2 ⟨rfl, b2⟩
  have b2' := b1'.trans (b2.mono b1'.size)
  replace x0 := keep_cell b2 x0
  replace x1 := keep_cell b2 x1
  replace x2 := keep_cell b2 x2
  replace x3 := keep_cell b2 x3
  have hl := lt_of_cell x0
  clear hc b1 b1' b2
  go_wp2
  go_ret
  exact ⟨rfl, by repeat (first | with_reducible exact b2' | with_reducible refine Below.drew ?_ | with_reducible refine Below.alloc ?_ b2'.size _ | with_reducible refine Below.setCell ?_ b2'.size _)⟩

set_option linter.unusedSimpArgs false in
set_option maxHeartbeats 1000000 in
theorem implOp_9_0 (a b v : Int) (za : (a != 0) = true) (w : World) :
    Calls Try.prog 56 #[.agg #[.int .i64 9, .int .i64 a, .int .i64 b, .int .i64 v]] w fun e w' => e = .returned (.int .i64 1) ∧ Below w.heap.size w w' := by
  have hc := fun W => fields_moveRows W
  have ho := fun W => opOf_9 a b v W
  have hn : ∀ W, (binOp .neq 49 (.agg #[.int .i64 9, .int .i64 a, .int .i64 b, .int .i64 v]) (.agg #[.int .i64 9, .int .i64 0, .int .i64 0, .int .i64 0])).run Try.prog W = .ok (.bool true) W := fun W => by
    rw [neqOp]
    first | rfl | (congr 2; done) | (congr 2; simp_all)
  clear za
  go_enter Try.func56, Try.ntmps56
  go_wp2_with fail
  refine (ho _).mono ?_
  rintro e w1 ⟨rfl, b1⟩
  have b1' := ((Below.refl _ w).alloc (Nat.le_refl _) _).trans (b1.mono (by simp))
  obtain ⟨cA, fA⟩ := bcell b1
  have x0 := cA w.heap.size 0 (by simp)
  have x1 := cA w.heap.size 1 (by simp)
  have x2 := cA w.heap.size 2 (by simp)
  have x3 := cA w.heap.size 3 (by simp)
  clear cA fA ho
  simp [go_sem] at x0 x1 x2 x3
  go_wp2_with fail
  refine (hc _).mono ?_
  rintro e w2 ⟨rfl, b2⟩
  have b2' := b1'.trans (b2.mono b1'.size)
  replace x0 := keep_cell b2 x0
  replace x1 := keep_cell b2 x1
  replace x2 := keep_cell b2 x2
  replace x3 := keep_cell b2 x3
  have hl := lt_of_cell x0
  clear hc b1 b1' b2
  go_wp2
  go_ret
  exact ⟨rfl, by repeat (first | with_reducible exact b2' | with_reducible refine Below.drew ?_ | with_reducible refine Below.alloc ?_ b2'.size _ | with_reducible refine Below.setCell ?_ b2'.size _)⟩

set_option linter.unusedSimpArgs false in
set_option maxHeartbeats 1000000 in
theorem implOp_9_1 (b v : Int) (zb : (b != 0) = true) (w : World) :
    Calls Try.prog 56 #[.agg #[.int .i64 9, .int .i64 0, .int .i64 b, .int .i64 v]] w fun e w' => e = .returned (.int .i64 1) ∧ Below w.heap.size w w' := by
  have hc := fun W => fields_moveRows W
  have ho := fun W => opOf_9 0 b v W
  have hn : ∀ W, (binOp .neq 49 (.agg #[.int .i64 9, .int .i64 0, .int .i64 b, .int .i64 v]) (.agg #[.int .i64 9, .int .i64 0, .int .i64 0, .int .i64 0])).run Try.prog W = .ok (.bool true) W := fun W => by
    rw [neqOp]
    first | rfl | (congr 2; done) | (congr 2; simp_all)
  clear zb
  go_enter Try.func56, Try.ntmps56
  go_wp2_with fail
  refine (ho _).mono ?_
  rintro e w1 ⟨rfl, b1⟩
  have b1' := ((Below.refl _ w).alloc (Nat.le_refl _) _).trans (b1.mono (by simp))
  obtain ⟨cA, fA⟩ := bcell b1
  have x0 := cA w.heap.size 0 (by simp)
  have x1 := cA w.heap.size 1 (by simp)
  have x2 := cA w.heap.size 2 (by simp)
  have x3 := cA w.heap.size 3 (by simp)
  clear cA fA ho
  simp [go_sem] at x0 x1 x2 x3
  go_wp2_with fail
  refine (hc _).mono ?_
  rintro e w2 ⟨rfl, b2⟩
  have b2' := b1'.trans (b2.mono b1'.size)
  replace x0 := keep_cell b2 x0
  replace x1 := keep_cell b2 x1
  replace x2 := keep_cell b2 x2
  replace x3 := keep_cell b2 x3
  have hl := lt_of_cell x0
  clear hc b1 b1' b2
  go_wp2
  go_ret
  exact ⟨rfl, by repeat (first | with_reducible exact b2' | with_reducible refine Below.drew ?_ | with_reducible refine Below.alloc ?_ b2'.size _ | with_reducible refine Below.setCell ?_ b2'.size _)⟩

set_option linter.unusedSimpArgs false in
set_option maxHeartbeats 1000000 in
theorem implOp_9_2 (v : Int) (zv : (v != 0) = true) (w : World) :
    Calls Try.prog 56 #[.agg #[.int .i64 9, .int .i64 0, .int .i64 0, .int .i64 v]] w fun e w' => e = .returned (.int .i64 1) ∧ Below w.heap.size w w' := by
  have hc := fun W => fields_moveRows W
  have ho := fun W => opOf_9 0 0 v W
  have hn : ∀ W, (binOp .neq 49 (.agg #[.int .i64 9, .int .i64 0, .int .i64 0, .int .i64 v]) (.agg #[.int .i64 9, .int .i64 0, .int .i64 0, .int .i64 0])).run Try.prog W = .ok (.bool true) W := fun W => by
    rw [neqOp]
    first | rfl | (congr 2; done) | (congr 2; simp_all)
  clear zv
  go_enter Try.func56, Try.ntmps56
  go_wp2_with fail
  refine (ho _).mono ?_
  rintro e w1 ⟨rfl, b1⟩
  have b1' := ((Below.refl _ w).alloc (Nat.le_refl _) _).trans (b1.mono (by simp))
  obtain ⟨cA, fA⟩ := bcell b1
  have x0 := cA w.heap.size 0 (by simp)
  have x1 := cA w.heap.size 1 (by simp)
  have x2 := cA w.heap.size 2 (by simp)
  have x3 := cA w.heap.size 3 (by simp)
  clear cA fA ho
  simp [go_sem] at x0 x1 x2 x3
  go_wp2_with fail
  refine (hc _).mono ?_
  rintro e w2 ⟨rfl, b2⟩
  have b2' := b1'.trans (b2.mono b1'.size)
  replace x0 := keep_cell b2 x0
  replace x1 := keep_cell b2 x1
  replace x2 := keep_cell b2 x2
  replace x3 := keep_cell b2 x3
  have hl := lt_of_cell x0
  clear hc b1 b1' b2
  go_wp2
  go_ret
  exact ⟨rfl, by repeat (first | with_reducible exact b2' | with_reducible refine Below.drew ?_ | with_reducible refine Below.alloc ?_ b2'.size _ | with_reducible refine Below.setCell ?_ b2'.size _)⟩

set_option linter.unusedSimpArgs false in
set_option maxHeartbeats 1000000 in
theorem implOp_9_3 (w : World) :
    Calls Try.prog 56 #[.agg #[.int .i64 9, .int .i64 0, .int .i64 0, .int .i64 0]] w fun e w' => e = .returned (.int .i64 0) ∧ Below w.heap.size w w' := by
  have hc := fun W => fields_moveRows W
  have ho := fun W => opOf_9 0 0 0 W
  have hn : ∀ W, (binOp .neq 49 (.agg #[.int .i64 9, .int .i64 0, .int .i64 0, .int .i64 0]) (.agg #[.int .i64 9, .int .i64 0, .int .i64 0, .int .i64 0])).run Try.prog W = .ok (.bool false) W := fun W => by
    rw [neqOp]
    first | rfl | (congr 2; done) | (congr 2; simp_all)
  go_enter Try.func56, Try.ntmps56
  go_wp2_with fail
  refine (ho _).mono ?_
  rintro e w1 ⟨rfl, b1⟩
  have b1' := ((Below.refl _ w).alloc (Nat.le_refl _) _).trans (b1.mono (by simp))
  obtain ⟨cA, fA⟩ := bcell b1
  have x0 := cA w.heap.size 0 (by simp)
  have x1 := cA w.heap.size 1 (by simp)
  have x2 := cA w.heap.size 2 (by simp)
  have x3 := cA w.heap.size 3 (by simp)
  clear cA fA ho
  simp [go_sem] at x0 x1 x2 x3
  go_wp2_with fail
  refine (hc _).mono ?_
  rintro e w2 ⟨rfl, b2⟩
  have b2' := b1'.trans (b2.mono b1'.size)
  replace x0 := keep_cell b2 x0
  replace x1 := keep_cell b2 x1
  replace x2 := keep_cell b2 x2
  replace x3 := keep_cell b2 x3
  have hl := lt_of_cell x0
  clear hc b1 b1' b2
  go_wp2
  go_ret
  exact ⟨rfl, by repeat (first | with_reducible exact b2' | with_reducible refine Below.drew ?_ | with_reducible refine Below.alloc ?_ b2'.size _ | with_reducible refine Below.setCell ?_ b2'.size _)⟩

set_option linter.unusedSimpArgs false in
set_option maxHeartbeats 1000000 in
theorem implOp_10_0 (a b v : Int) (za : (a != 0) = true) (w : World) :
    Calls Try.prog 56 #[.agg #[.int .i64 10, .int .i64 a, .int .i64 b, .int .i64 v]] w fun e w' => e = .returned (.int .i64 1) ∧ Below w.heap.size w w' := by
  have hc := fun W => fields_readAll W
  have ho := fun W => opOf_10 a b v W
  have hn : ∀ W, (binOp .neq 49 (.agg #[.int .i64 10, .int .i64 a, .int .i64 b, .int .i64 v]) (.agg #[.int .i64 10, .int .i64 0, .int .i64 0, .int .i64 0])).run Try.prog W = .ok (.bool true) W := fun W => by
    rw [neqOp]
    first | rfl | (congr 2; done) | (congr 2; simp_all)
  clear za
  go_enter Try.func56, Try.ntmps56
  go_wp2_with fail
  refine (ho _).mono ?_
  rintro e w1 ⟨rfl, b1⟩
  have b1' := ((Below.refl _ w).alloc (Nat.le_refl _) _).trans (b1.mono (by simp))
  obtain ⟨cA, fA⟩ := bcell b1
  have x0 := cA w.heap.size 0 (by simp)
  have x1 := cA w.heap.size 1 (by simp)
  have x2 := cA w.heap.size 2 (by simp)
  have x3 := cA w.heap.size 3 (by simp)
  clear cA fA ho
  simp [go_sem] at x0 x1 x2 x3
  go_wp2_with fail
  refine (hc _).mono ?_
  rintro e w2 ⟨rfl, b2⟩
  have b2' := b1'.trans (b2.mono b1'.size)
  replace x0 := keep_cell b2 x0
  replace x1 := keep_cell b2 x1
  replace x2 := keep_cell b2 x2
  replace x3 := keep_cell b2 x3
  have hl := lt_of_cell x0
  clear hc b1 b1' b2
  go_wp2
  go_ret
  exact ⟨rfl, by repeat (first | with_reducible exact b2' | with_reducible refine Below.drew ?_ | with_reducible refine Below.alloc ?_ b2'.size _ | with_reducible refine Below.setCell ?_ b2'.size _)⟩

set_option linter.unusedSimpArgs false in
set_option maxHeartbeats 1000000 in
theorem implOp_10_1 (b v : Int) (zb : (b != 0) = true) (w : World) :
    Calls Try.prog 56 #[.agg #[.int .i64 10, .int .i64 0, .int .i64 b, .int .i64 v]] w fun e w' => e = .returned (.int .i64 1) ∧ Below w.heap.size w w' := by
  have hc := fun W => fields_readAll W
  have ho := fun W => opOf_10 0 b v W
  have hn : ∀ W, (binOp .neq 49 (.agg #[.int .i64 10, .int .i64 0, .int .i64 b, .int .i64 v]) (.agg #[.int .i64 10, .int .i64 0, .int .i64 0, .int .i64 0])).run Try.prog W = .ok (.bool true) W := fun W => by
    rw [neqOp]
    first | rfl | (congr 2; done) | (congr 2; simp_all)
  clear zb
  go_enter Try.func56, Try.ntmps56
  go_wp2_with fail
  refine (ho _).mono ?_
  rintro e w1 ⟨rfl, b1⟩
  have b1' := ((Below.refl _ w).alloc (Nat.le_refl _) _).trans (b1.mono (by simp))
  obtain ⟨cA, fA⟩ := bcell b1
  have x0 := cA w.heap.size 0 (by simp)
  have x1 := cA w.heap.size 1 (by simp)
  have x2 := cA w.heap.size 2 (by simp)
  have x3 := cA w.heap.size 3 (by simp)
  clear cA fA ho
  simp [go_sem] at x0 x1 x2 x3
  go_wp2_with fail
  refine (hc _).mono ?_
  rintro e w2 ⟨rfl, b2⟩
  have b2' := b1'.trans (b2.mono b1'.size)
  replace x0 := keep_cell b2 x0
  replace x1 := keep_cell b2 x1
  replace x2 := keep_cell b2 x2
  replace x3 := keep_cell b2 x3
  have hl := lt_of_cell x0
  clear hc b1 b1' b2
  go_wp2
  go_ret
  exact ⟨rfl, by repeat (first | with_reducible exact b2' | with_reducible refine Below.drew ?_ | with_reducible refine Below.alloc ?_ b2'.size _ | with_reducible refine Below.setCell ?_ b2'.size _)⟩

set_option linter.unusedSimpArgs false in
set_option maxHeartbeats 1000000 in
theorem implOp_10_2 (v : Int) (zv : (v != 0) = true) (w : World) :
    Calls Try.prog 56 #[.agg #[.int .i64 10, .int .i64 0, .int .i64 0, .int .i64 v]] w fun e w' => e = .returned (.int .i64 1) ∧ Below w.heap.size w w' := by
  have hc := fun W => fields_readAll W
  have ho := fun W => opOf_10 0 0 v W
  have hn : ∀ W, (binOp .neq 49 (.agg #[.int .i64 10, .int .i64 0, .int .i64 0, .int .i64 v]) (.agg #[.int .i64 10, .int .i64 0, .int .i64 0, .int .i64 0])).run Try.prog W = .ok (.bool true) W := fun W => by
    rw [neqOp]
    first | rfl | (congr 2; done) | (congr 2; simp_all)
  clear zv
  go_enter Try.func56, Try.ntmps56
  go_wp2_with fail
  refine (ho _).mono ?_
  rintro e w1 ⟨rfl, b1⟩
  have b1' := ((Below.refl _ w).alloc (Nat.le_refl _) _).trans (b1.mono (by simp))
  obtain ⟨cA, fA⟩ := bcell b1
  have x0 := cA w.heap.size 0 (by simp)
  have x1 := cA w.heap.size 1 (by simp)
  have x2 := cA w.heap.size 2 (by simp)
  have x3 := cA w.heap.size 3 (by simp)
  clear cA fA ho
  simp [go_sem] at x0 x1 x2 x3
  go_wp2_with fail
  refine (hc _).mono ?_
  rintro e w2 ⟨rfl, b2⟩
  have b2' := b1'.trans (b2.mono b1'.size)
  replace x0 := keep_cell b2 x0
  replace x1 := keep_cell b2 x1
  replace x2 := keep_cell b2 x2
  replace x3 := keep_cell b2 x3
  have hl := lt_of_cell x0
  clear hc b1 b1' b2
  go_wp2
  go_ret
  exact ⟨rfl, by repeat (first | with_reducible exact b2' | with_reducible refine Below.drew ?_ | with_reducible refine Below.alloc ?_ b2'.size _ | with_reducible refine Below.setCell ?_ b2'.size _)⟩

set_option linter.unusedSimpArgs false in
set_option maxHeartbeats 1000000 in
theorem implOp_10_3 (w : World) :
    Calls Try.prog 56 #[.agg #[.int .i64 10, .int .i64 0, .int .i64 0, .int .i64 0]] w fun e w' => e = .returned (.int .i64 0) ∧ Below w.heap.size w w' := by
  have hc := fun W => fields_readAll W
  have ho := fun W => opOf_10 0 0 0 W
  have hn : ∀ W, (binOp .neq 49 (.agg #[.int .i64 10, .int .i64 0, .int .i64 0, .int .i64 0]) (.agg #[.int .i64 10, .int .i64 0, .int .i64 0, .int .i64 0])).run Try.prog W = .ok (.bool false) W := fun W => by
    rw [neqOp]
    first | rfl | (congr 2; done) | (congr 2; simp_all)
  go_enter Try.func56, Try.ntmps56
  go_wp2_with fail
  refine (ho _).mono ?_
  rintro e w1 ⟨rfl, b1⟩
  have b1' := ((Below.refl _ w).alloc (Nat.le_refl _) _).trans (b1.mono (by simp))
  obtain ⟨cA, fA⟩ := bcell b1
  have x0 := cA w.heap.size 0 (by simp)
  have x1 := cA w.heap.size 1 (by simp)
  have x2 := cA w.heap.size 2 (by simp)
  have x3 := cA w.heap.size 3 (by simp)
  clear cA fA ho
  simp [go_sem] at x0 x1 x2 x3
  go_wp2_with fail
  refine (hc _).mono ?_
  rintro e w2 ⟨rfl, b2⟩
  have b2' := b1'.trans (b2.mono b1'.size)
  replace x0 := keep_cell b2 x0
  replace x1 := keep_cell b2 x1
  replace x2 := keep_cell b2 x2
  replace x3 := keep_cell b2 x3
  have hl := lt_of_cell x0
  clear hc b1 b1' b2
  go_wp2
  go_ret
  exact ⟨rfl, by repeat (first | with_reducible exact b2' | with_reducible refine Below.drew ?_ | with_reducible refine Below.alloc ?_ b2'.size _ | with_reducible refine Below.setCell ?_ b2'.size _)⟩

theorem implOp_1 (a b v : Int) (w : World) :
    Calls Try.prog 56 #[.agg #[.int .i64 1, .int .i64 a, .int .i64 b, .int .i64 v]] w fun e w' => e = .returned (.int .i64 (Ch.opFault 1 a b v)) ∧ Below w.heap.size w w' := by
  have ku : ∀ c : Int, Ch.opFault 1 a b v = c → (Calls Try.prog 56 #[.agg #[.int .i64 1, .int .i64 a, .int .i64 b, .int .i64 v]] w fun e w' => e = .returned (.int .i64 c) ∧ Below w.heap.size w w') → (Calls Try.prog 56 #[.agg #[.int .i64 1, .int .i64 a, .int .i64 b, .int .i64 v]] w fun e w' => e = .returned (.int .i64 (Ch.opFault 1 a b v)) ∧ Below w.heap.size w w') := fun c hc h => by rw [hc]; exact h
  cases ha : Ch.inB a 0 99
  · exact ku 3 (by simp [Ch.opFault, *]) (implOp_1_0 a b v ha w)
  by_cases qb : b = 0
  rotate_left
  · have zb : (b != 0) = true := by simpa using qb
    exact ku 1 (by simp [Ch.opFault, *]) (implOp_1_1 a b v ha zb w)
  subst qb
  by_cases qv : v = 0
  rotate_left
  · have zv : (v != 0) = true := by simpa using qv
    exact ku 1 (by simp [Ch.opFault, *]) (implOp_1_2 a v ha zv w)
  subst qv
  exact ku 0 (by simp [Ch.opFault, *]) (implOp_1_3 a ha w)

theorem implOp_2 (a b v : Int) (w : World) :
    Calls Try.prog 56 #[.agg #[.int .i64 2, .int .i64 a, .int .i64 b, .int .i64 v]] w fun e w' => e = .returned (.int .i64 (Ch.opFault 2 a b v)) ∧ Below w.heap.size w w' := by
  have ku : ∀ c : Int, Ch.opFault 2 a b v = c → (Calls Try.prog 56 #[.agg #[.int .i64 2, .int .i64 a, .int .i64 b, .int .i64 v]] w fun e w' => e = .returned (.int .i64 c) ∧ Below w.heap.size w w') → (Calls Try.prog 56 #[.agg #[.int .i64 2, .int .i64 a, .int .i64 b, .int .i64 v]] w fun e w' => e = .returned (.int .i64 (Ch.opFault 2 a b v)) ∧ Below w.heap.size w w') := fun c hc h => by rw [hc]; exact h
  cases ha : Ch.inB a 0 99
  · exact ku 3 (by simp [Ch.opFault, *]) (implOp_2_0 a b v ha w)
  cases hv : Ch.inB v 0 9999
  · exact ku 3 (by simp [Ch.opFault, *]) (implOp_2_1 a b v ha hv w)
  by_cases qb : b = 0
  rotate_left
  · have zb : (b != 0) = true := by simpa using qb
    exact ku 1 (by simp [Ch.opFault, *]) (implOp_2_2 a b v ha hv zb w)
  subst qb
  exact ku 0 (by simp [Ch.opFault, *]) (implOp_2_3 a v ha hv w)

theorem implOp_3 (a b v : Int) (w : World) :
    Calls Try.prog 56 #[.agg #[.int .i64 3, .int .i64 a, .int .i64 b, .int .i64 v]] w fun e w' => e = .returned (.int .i64 (Ch.opFault 3 a b v)) ∧ Below w.heap.size w w' := by
  have ku : ∀ c : Int, Ch.opFault 3 a b v = c → (Calls Try.prog 56 #[.agg #[.int .i64 3, .int .i64 a, .int .i64 b, .int .i64 v]] w fun e w' => e = .returned (.int .i64 c) ∧ Below w.heap.size w w') → (Calls Try.prog 56 #[.agg #[.int .i64 3, .int .i64 a, .int .i64 b, .int .i64 v]] w fun e w' => e = .returned (.int .i64 (Ch.opFault 3 a b v)) ∧ Below w.heap.size w w') := fun c hc h => by rw [hc]; exact h
  cases ha : Ch.inB a 0 99
  · exact ku 3 (by simp [Ch.opFault, *]) (implOp_3_0 a b v ha w)
  by_cases qb : b = 0
  rotate_left
  · have zb : (b != 0) = true := by simpa using qb
    exact ku 1 (by simp [Ch.opFault, *]) (implOp_3_1 a b v ha zb w)
  subst qb
  by_cases qv : v = 0
  rotate_left
  · have zv : (v != 0) = true := by simpa using qv
    exact ku 1 (by simp [Ch.opFault, *]) (implOp_3_2 a v ha zv w)
  subst qv
  exact ku 0 (by simp [Ch.opFault, *]) (implOp_3_3 a ha w)

theorem implOp_4 (a b v : Int) (w : World) :
    Calls Try.prog 56 #[.agg #[.int .i64 4, .int .i64 a, .int .i64 b, .int .i64 v]] w fun e w' => e = .returned (.int .i64 (Ch.opFault 4 a b v)) ∧ Below w.heap.size w w' := by
  have ku : ∀ c : Int, Ch.opFault 4 a b v = c → (Calls Try.prog 56 #[.agg #[.int .i64 4, .int .i64 a, .int .i64 b, .int .i64 v]] w fun e w' => e = .returned (.int .i64 c) ∧ Below w.heap.size w w') → (Calls Try.prog 56 #[.agg #[.int .i64 4, .int .i64 a, .int .i64 b, .int .i64 v]] w fun e w' => e = .returned (.int .i64 (Ch.opFault 4 a b v)) ∧ Below w.heap.size w w') := fun c hc h => by rw [hc]; exact h
  cases ha : Ch.inB a 0 99
  · exact ku 3 (by simp [Ch.opFault, *]) (implOp_4_0 a b v ha w)
  cases hb : Ch.inB b 0 99
  · exact ku 3 (by simp [Ch.opFault, *]) (implOp_4_1 a b v ha hb w)
  by_cases qv : v = 0
  rotate_left
  · have zv : (v != 0) = true := by simpa using qv
    exact ku 1 (by simp [Ch.opFault, *]) (implOp_4_2 a b v ha hb zv w)
  subst qv
  exact ku 0 (by simp [Ch.opFault, *]) (implOp_4_3 a b ha hb w)

theorem implOp_5 (a b v : Int) (w : World) :
    Calls Try.prog 56 #[.agg #[.int .i64 5, .int .i64 a, .int .i64 b, .int .i64 v]] w fun e w' => e = .returned (.int .i64 (Ch.opFault 5 a b v)) ∧ Below w.heap.size w w' := by
  have ku : ∀ c : Int, Ch.opFault 5 a b v = c → (Calls Try.prog 56 #[.agg #[.int .i64 5, .int .i64 a, .int .i64 b, .int .i64 v]] w fun e w' => e = .returned (.int .i64 c) ∧ Below w.heap.size w w') → (Calls Try.prog 56 #[.agg #[.int .i64 5, .int .i64 a, .int .i64 b, .int .i64 v]] w fun e w' => e = .returned (.int .i64 (Ch.opFault 5 a b v)) ∧ Below w.heap.size w w') := fun c hc h => by rw [hc]; exact h
  cases hv : Ch.inB v 0 9999
  · exact ku 3 (by simp [Ch.opFault, *]) (implOp_5_0 a b v hv w)
  by_cases qa : a = 0
  rotate_left
  · have za : (a != 0) = true := by simpa using qa
    exact ku 1 (by simp [Ch.opFault, *]) (implOp_5_1 a b v hv za w)
  subst qa
  by_cases qb : b = 0
  rotate_left
  · have zb : (b != 0) = true := by simpa using qb
    exact ku 1 (by simp [Ch.opFault, *]) (implOp_5_2 b v hv zb w)
  subst qb
  exact ku 0 (by simp [Ch.opFault, *]) (implOp_5_3 v hv w)

theorem implOp_6 (a b v : Int) (w : World) :
    Calls Try.prog 56 #[.agg #[.int .i64 6, .int .i64 a, .int .i64 b, .int .i64 v]] w fun e w' => e = .returned (.int .i64 (Ch.opFault 6 a b v)) ∧ Below w.heap.size w w' := by
  have ku : ∀ c : Int, Ch.opFault 6 a b v = c → (Calls Try.prog 56 #[.agg #[.int .i64 6, .int .i64 a, .int .i64 b, .int .i64 v]] w fun e w' => e = .returned (.int .i64 c) ∧ Below w.heap.size w w') → (Calls Try.prog 56 #[.agg #[.int .i64 6, .int .i64 a, .int .i64 b, .int .i64 v]] w fun e w' => e = .returned (.int .i64 (Ch.opFault 6 a b v)) ∧ Below w.heap.size w w') := fun c hc h => by rw [hc]; exact h
  by_cases qa : a = 0
  rotate_left
  · have za : (a != 0) = true := by simpa using qa
    exact ku 1 (by simp [Ch.opFault, *]) (implOp_6_0 a b v za w)
  subst qa
  by_cases qb : b = 0
  rotate_left
  · have zb : (b != 0) = true := by simpa using qb
    exact ku 1 (by simp [Ch.opFault, *]) (implOp_6_1 b v zb w)
  subst qb
  by_cases qv : v = 0
  rotate_left
  · have zv : (v != 0) = true := by simpa using qv
    exact ku 1 (by simp [Ch.opFault, *]) (implOp_6_2 v zv w)
  subst qv
  exact ku 0 (by simp [Ch.opFault, *]) (implOp_6_3  w)

theorem implOp_7 (a b v : Int) (w : World) :
    Calls Try.prog 56 #[.agg #[.int .i64 7, .int .i64 a, .int .i64 b, .int .i64 v]] w fun e w' => e = .returned (.int .i64 (Ch.opFault 7 a b v)) ∧ Below w.heap.size w w' := by
  have ku : ∀ c : Int, Ch.opFault 7 a b v = c → (Calls Try.prog 56 #[.agg #[.int .i64 7, .int .i64 a, .int .i64 b, .int .i64 v]] w fun e w' => e = .returned (.int .i64 c) ∧ Below w.heap.size w w') → (Calls Try.prog 56 #[.agg #[.int .i64 7, .int .i64 a, .int .i64 b, .int .i64 v]] w fun e w' => e = .returned (.int .i64 (Ch.opFault 7 a b v)) ∧ Below w.heap.size w w') := fun c hc h => by rw [hc]; exact h
  by_cases qa : a = 0
  rotate_left
  · have za : (a != 0) = true := by simpa using qa
    exact ku 1 (by simp [Ch.opFault, *]) (implOp_7_0 a b v za w)
  subst qa
  by_cases qb : b = 0
  rotate_left
  · have zb : (b != 0) = true := by simpa using qb
    exact ku 1 (by simp [Ch.opFault, *]) (implOp_7_1 b v zb w)
  subst qb
  by_cases qv : v = 0
  rotate_left
  · have zv : (v != 0) = true := by simpa using qv
    exact ku 1 (by simp [Ch.opFault, *]) (implOp_7_2 v zv w)
  subst qv
  exact ku 0 (by simp [Ch.opFault, *]) (implOp_7_3  w)

theorem implOp_8 (a b v : Int) (w : World) :
    Calls Try.prog 56 #[.agg #[.int .i64 8, .int .i64 a, .int .i64 b, .int .i64 v]] w fun e w' => e = .returned (.int .i64 (Ch.opFault 8 a b v)) ∧ Below w.heap.size w w' := by
  have ku : ∀ c : Int, Ch.opFault 8 a b v = c → (Calls Try.prog 56 #[.agg #[.int .i64 8, .int .i64 a, .int .i64 b, .int .i64 v]] w fun e w' => e = .returned (.int .i64 c) ∧ Below w.heap.size w w') → (Calls Try.prog 56 #[.agg #[.int .i64 8, .int .i64 a, .int .i64 b, .int .i64 v]] w fun e w' => e = .returned (.int .i64 (Ch.opFault 8 a b v)) ∧ Below w.heap.size w w') := fun c hc h => by rw [hc]; exact h
  cases ha : Ch.inB a 0 99
  · exact ku 3 (by simp [Ch.opFault, *]) (implOp_8_0 a b v ha w)
  by_cases qb : b = 0
  rotate_left
  · have zb : (b != 0) = true := by simpa using qb
    exact ku 1 (by simp [Ch.opFault, *]) (implOp_8_1 a b v ha zb w)
  subst qb
  by_cases qv : v = 0
  rotate_left
  · have zv : (v != 0) = true := by simpa using qv
    exact ku 1 (by simp [Ch.opFault, *]) (implOp_8_2 a v ha zv w)
  subst qv
  exact ku 0 (by simp [Ch.opFault, *]) (implOp_8_3 a ha w)

theorem implOp_9 (a b v : Int) (w : World) :
    Calls Try.prog 56 #[.agg #[.int .i64 9, .int .i64 a, .int .i64 b, .int .i64 v]] w fun e w' => e = .returned (.int .i64 (Ch.opFault 9 a b v)) ∧ Below w.heap.size w w' := by
  have ku : ∀ c : Int, Ch.opFault 9 a b v = c → (Calls Try.prog 56 #[.agg #[.int .i64 9, .int .i64 a, .int .i64 b, .int .i64 v]] w fun e w' => e = .returned (.int .i64 c) ∧ Below w.heap.size w w') → (Calls Try.prog 56 #[.agg #[.int .i64 9, .int .i64 a, .int .i64 b, .int .i64 v]] w fun e w' => e = .returned (.int .i64 (Ch.opFault 9 a b v)) ∧ Below w.heap.size w w') := fun c hc h => by rw [hc]; exact h
  by_cases qa : a = 0
  rotate_left
  · have za : (a != 0) = true := by simpa using qa
    exact ku 1 (by simp [Ch.opFault, *]) (implOp_9_0 a b v za w)
  subst qa
  by_cases qb : b = 0
  rotate_left
  · have zb : (b != 0) = true := by simpa using qb
    exact ku 1 (by simp [Ch.opFault, *]) (implOp_9_1 b v zb w)
  subst qb
  by_cases qv : v = 0
  rotate_left
  · have zv : (v != 0) = true := by simpa using qv
    exact ku 1 (by simp [Ch.opFault, *]) (implOp_9_2 v zv w)
  subst qv
  exact ku 0 (by simp [Ch.opFault, *]) (implOp_9_3  w)

theorem implOp_10 (a b v : Int) (w : World) :
    Calls Try.prog 56 #[.agg #[.int .i64 10, .int .i64 a, .int .i64 b, .int .i64 v]] w fun e w' => e = .returned (.int .i64 (Ch.opFault 10 a b v)) ∧ Below w.heap.size w w' := by
  have ku : ∀ c : Int, Ch.opFault 10 a b v = c → (Calls Try.prog 56 #[.agg #[.int .i64 10, .int .i64 a, .int .i64 b, .int .i64 v]] w fun e w' => e = .returned (.int .i64 c) ∧ Below w.heap.size w w') → (Calls Try.prog 56 #[.agg #[.int .i64 10, .int .i64 a, .int .i64 b, .int .i64 v]] w fun e w' => e = .returned (.int .i64 (Ch.opFault 10 a b v)) ∧ Below w.heap.size w w') := fun c hc h => by rw [hc]; exact h
  by_cases qa : a = 0
  rotate_left
  · have za : (a != 0) = true := by simpa using qa
    exact ku 1 (by simp [Ch.opFault, *]) (implOp_10_0 a b v za w)
  subst qa
  by_cases qb : b = 0
  rotate_left
  · have zb : (b != 0) = true := by simpa using qb
    exact ku 1 (by simp [Ch.opFault, *]) (implOp_10_1 b v zb w)
  subst qb
  by_cases qv : v = 0
  rotate_left
  · have zv : (v != 0) = true := by simpa using qv
    exact ku 1 (by simp [Ch.opFault, *]) (implOp_10_2 v zv w)
  subst qv
  exact ku 0 (by simp [Ch.opFault, *]) (implOp_10_3  w)

theorem implOp_no (k a b v : Int) (hk : Ch.inB k 1 10 = false) (w : World) :
    Calls Try.prog 56 #[.agg #[.int .i64 k, .int .i64 a, .int .i64 b, .int .i64 v]] w fun e w' => e = .returned (.int .i64 1) ∧ Below w.heap.size w w' := by
  have ho := fun W => opOf_no k a b v hk W
  clear hk
  go_enter Try.func56, Try.ntmps56
  go_wp2_with fail
  refine (ho _).mono ?_
  rintro e w1 ⟨rfl, b1⟩
  have b1' := ((Below.refl _ w).alloc (Nat.le_refl _) _).trans (b1.mono (by simp))
  go_wp2
  go_ret
  exact ⟨rfl, b1'⟩

theorem implOp_any (k a b v : Int) (w : World) :
    Calls Try.prog 56 #[.agg #[.int .i64 k, .int .i64 a, .int .i64 b, .int .i64 v]] w fun e w' => e = .returned (.int .i64 (Ch.opFault k a b v)) ∧ Below w.heap.size w w' := by
  rcases Ch.op_cases k with rfl | rfl | rfl | rfl | rfl | rfl | rfl | rfl | rfl | rfl | hk
  · exact implOp_1 a b v w
  · exact implOp_2 a b v w
  · exact implOp_3 a b v w
  · exact implOp_4 a b v w
  · exact implOp_5 a b v w
  · exact implOp_6 a b v w
  · exact implOp_7 a b v w
  · exact implOp_8 a b v w
  · exact implOp_9 a b v w
  · exact implOp_10 a b v w
  · rw [Ch.op_none hk]; exact implOp_no k a b v hk w

end Go.Proofs.Ytlpncikiaojmiaa

/- What is wrong with acts: of the program and of the model. -/
namespace Go.Proofs.Ytlpncikiaojmiaa
open Go.RowKit

set_option maxHeartbeats 1000000 in
theorem implActs_any (a : Option Addr) (n cap : Nat) (rs : List Ch.Ac) (w : World) (h : AcAt w a n rs) (hn : n ≤ 1048576) :
    Calls Try.prog 50 #[.slice a n cap] w fun e w' => e = .returned (.int .i64 (Ch.acsF rs)) ∧ Below w.heap.size w w' := by
  have HL := h.len
  by_cases h8 : 220 < n
  · have HF : Hid (Ch.acsF rs = 2) := Ch.acsF_many (by have := HL.out; omega)
    rw [HF.out]
    go_enter Try.func50, Try.ntmps50
    go_wp2
    go_ret
    exact ⟨rfl, Below.refl _ _⟩
  · have HF : Hid (Ch.acsF rs = Ch.acsAt rs rs.length) := Ch.acsF_few (by have := HL.out; omega)
    have h8' : n ≤ 220 := by omega
    rw [HF.out]
    clear h8
    obtain ⟨c, HC⟩ : ∃ c, Hid (Ch.acsAt rs rs.length = c) := ⟨_, rfl⟩
    rw [HC.out]
    go_enter Try.func50, Try.ntmps50
    go_wp2
    go_loopw [11] (fun i wr => ∃ k : Nat, k ≤ n ∧ i = .int .i64 k ∧ Hid (Ch.acsAt rs k = 0) ∧ Below w.heap.size w wr) (fun i _ => n - (intOf i).toNat)
    case atStart => exact ⟨0, Nat.zero_le _, rfl, rfl, Below.refl _ _⟩
    case round =>
      obtain ⟨k, hk, rfl, H0, hB⟩ := hrel
      by_cases hlt : k < n
      · have HS := hid (Ch.acsAt_step (by have := HL.out; omega : k < rs.length) H0.out)
        obtain ⟨b, off, ai, ni, ci, rfl, hc0, hc1, hc2, hc3, hc4, hc5, _, _⟩ := (h.below hB).act hlt
        generalize Ch.acAt rs k = r at *
        obtain ⟨tx, kd, p, q, v, an⟩ := r
        simp only at hc0 hc1 hc2 hc3 hc4
        have IR := fun W => implOp_any kd p q v W
        have HV : Hid ((Ch.Ac.mk tx kd p q v an).fault = if Ch.inB tx 1 999 = false then 3 else Ch.opFault kd p q v) := rfl
        by_cases ht : Ch.inB tx 1 999 = true
        · have HV' : Hid ((Ch.Ac.mk tx kd p q v an).fault = Ch.opFault kd p q v) := by show _ = _; rw [HV.out, ht]; rfl
          generalize Ch.opFault kd p q v = z at *
          go_wp2_with (go_at_call 60; refine (isTxn_any _ _).mono ?_; rintro e w' ⟨rfl, rfl⟩)
          refine (IR _).mono ?_
          rintro e w1 ⟨rfl, b1⟩
          have b1' : Below w.heap.size w w1 := hB.trans ((below_box b1).mono hB.size)
          clear IR
          by_cases h0 : z = 0
          · subst h0
            go_wp2
            go_roundw
            case rel => exact ⟨k + 1, by omega, by go_num, HS.out.trans HV'.out, b1'⟩
            case measure => simp [intOf]; omega
          · have hq : (z != 0) = true := by simpa using h0
            have HQ := hid ((Ch.acsAt_stays (HS.out.trans HV'.out) hq).symm.trans HC.out)
            clear h0
            go_wp2
            go_ret
            exact ⟨ret_int HQ.out, b1'⟩
        · have ht' : Ch.inB tx 1 999 = false := by simpa using ht
          have HV' : Hid ((Ch.Ac.mk tx kd p q v an).fault = 3) := by show _ = _; rw [HV.out, ht']; rfl
          have HQ := hid ((Ch.acsAt_stays (HS.out.trans HV'.out) (by decide)).symm.trans HC.out)
          clear ht
          go_wp2_with (go_at_call 60; refine (isTxn_any _ _).mono ?_; rintro e w' ⟨rfl, rfl⟩)
          go_ret
          exact ⟨ret_int HQ.out, hB.alloc hB.size _⟩
      · obtain rfl : k = n := by omega
        have HQ : Hid (0 = c) := by have h1 := H0.out; rw [HL.out] at h1; exact h1.symm.trans HC.out
        go_wp2
        go_ret
        exact ⟨ret_int HQ.out, hB⟩

set_option maxHeartbeats 1000000 in
theorem specActs_any (a : Option Addr) (n cap : Nat) (rs : List Ch.Ac) (w : World) (h : AcAt w a n rs) (hn : n ≤ 1048576) :
    Calls Try.prog 34 #[.slice a n cap] w fun e w' => e = .returned (.int .i64 (Ch.acsF rs)) ∧ Below w.heap.size w w' := by
  have HL := h.len
  by_cases h8 : 220 < n
  · have HF : Hid (Ch.acsF rs = 2) := Ch.acsF_many (by have := HL.out; omega)
    rw [HF.out]
    go_enter Try.func34, Try.ntmps34
    go_wp2
    go_ret
    exact ⟨rfl, Below.refl _ _⟩
  · have HF : Hid (Ch.acsF rs = Ch.acsAt rs rs.length) := Ch.acsF_few (by have := HL.out; omega)
    have h8' : n ≤ 220 := by omega
    rw [HF.out]
    clear h8
    obtain ⟨c, HC⟩ : ∃ c, Hid (Ch.acsAt rs rs.length = c) := ⟨_, rfl⟩
    rw [HC.out]
    go_enter Try.func34, Try.ntmps34
    go_wp2
    go_loopw [3] (fun i wr => ∃ k : Nat, k ≤ n ∧ i = .int .i64 k ∧ Hid (Ch.acsAt rs k = 0) ∧ Below w.heap.size w wr) (fun i _ => n - (intOf i).toNat)
    case atStart => exact ⟨0, Nat.zero_le _, rfl, rfl, Below.refl _ _⟩
    case round =>
      obtain ⟨k, hk, rfl, H0, hB⟩ := hrel
      by_cases hlt : k < n
      · have HS := hid (Ch.acsAt_step (by have := HL.out; omega : k < rs.length) H0.out)
        obtain ⟨b, off, ai, ni, ci, rfl, hc0, hc1, hc2, hc3, hc4, hc5, _, _⟩ := (h.below hB).act hlt
        generalize Ch.acAt rs k = r at *
        obtain ⟨tx, kd, p, q, v, an⟩ := r
        simp only at hc0 hc1 hc2 hc3 hc4
        have IR := fun W => specOp_any kd p q v W
        have HV : Hid ((Ch.Ac.mk tx kd p q v an).fault = if Ch.inB tx 1 999 = false then 3 else Ch.opFault kd p q v) := rfl
        by_cases ht : Ch.inB tx 1 999 = true
        · have HV' : Hid ((Ch.Ac.mk tx kd p q v an).fault = Ch.opFault kd p q v) := by show _ = _; rw [HV.out, ht]; rfl
          generalize Ch.opFault kd p q v = z at *
          go_wp2_with (go_at_call 58; refine (l2Txn_any _ _).mono ?_; rintro e w' ⟨rfl, rfl⟩)
          refine (IR _).mono ?_
          rintro e w1 ⟨rfl, b1⟩
          have b1' : Below w.heap.size w w1 := hB.trans (b1.mono hB.size)
          clear IR
          by_cases h0 : z = 0
          · subst h0
            go_wp2
            go_roundw
            case rel => exact ⟨k + 1, by omega, by go_num, HS.out.trans HV'.out, b1'⟩
            case measure => simp [intOf]; omega
          · have hq : (z != 0) = true := by simpa using h0
            have HQ := hid ((Ch.acsAt_stays (HS.out.trans HV'.out) hq).symm.trans HC.out)
            clear h0
            go_wp2
            go_ret
            exact ⟨ret_int HQ.out, b1'⟩
        · have ht' : Ch.inB tx 1 999 = false := by simpa using ht
          have HV' : Hid ((Ch.Ac.mk tx kd p q v an).fault = 3) := by show _ = _; rw [HV.out, ht']; rfl
          have HQ := hid ((Ch.acsAt_stays (HS.out.trans HV'.out) (by decide)).symm.trans HC.out)
          clear ht
          go_wp2_with (go_at_call 58; refine (l2Txn_any _ _).mono ?_; rintro e w' ⟨rfl, rfl⟩)
          go_ret
          exact ⟨ret_int HQ.out, hB⟩
      · obtain rfl : k = n := by omega
        have HQ : Hid (0 = c) := by have h1 := H0.out; rw [HL.out] at h1; exact h1.symm.trans HC.out
        go_wp2
        go_ret
        exact ⟨ret_int HQ.out, hB⟩

end Go.Proofs.Ytlpncikiaojmiaa

/- TouchesOf of the program and of the model. -/
namespace Go.Proofs.Ytlpncikiaojmiaa
open Go.RowKit

set_option linter.unusedSimpArgs false in
set_option maxHeartbeats 1000000 in
theorem l14Touches_any (k a b v key : Int) (w : World) :
    Calls Try.prog 55 #[.agg #[.int .i64 k, .int .i64 a, .int .i64 b, .int .i64 v], .int .i64 key] w fun e w' => e = .returned (.bool (Ch.touch k a b key)) ∧ Below w.heap.size w w' := by
  rcases Ch.op_cases k with h1 | h1 | h1 | h1 | h1 | h1 | h1 | h1 | h1 | h1 | h1
  rotate_left 10
  · have z1 : (k == 1) = false := by unfold Ch.inB at h1; simp only [Bool.and_eq_false_iff, decide_eq_false_iff_not] at h1; simp; omega
    have z2 : (k == 2) = false := by unfold Ch.inB at h1; simp only [Bool.and_eq_false_iff, decide_eq_false_iff_not] at h1; simp; omega
    have z3 : (k == 3) = false := by unfold Ch.inB at h1; simp only [Bool.and_eq_false_iff, decide_eq_false_iff_not] at h1; simp; omega
    have z4 : (k == 4) = false := by unfold Ch.inB at h1; simp only [Bool.and_eq_false_iff, decide_eq_false_iff_not] at h1; simp; omega
    have z5 : (k == 5) = false := by unfold Ch.inB at h1; simp only [Bool.and_eq_false_iff, decide_eq_false_iff_not] at h1; simp; omega
    have HE : Hid (Ch.touch k a b key = false) := by
      show _ = _
      simp only [beq_eq_false_iff_ne, ne_eq] at z1 z2 z3 z4 z5
      unfold Ch.touch
      simp [z1, z2, z3, z4, z5]
    rw [HE.out]
    clear h1
    go_enter Try.func55, Try.ntmps55
    go_wp2
    go_ret
    exact ⟨rfl, (Below.refl _ _).alloc (Nat.le_refl _) _⟩
  all_goals
    subst h1
    simp only [Ch.touch]
    go_enter Try.func55, Try.ntmps55
    go_wp2_with (go_at_call 78; refine (in_any _ _ _ _).mono ?_; rintro e w' ⟨rfl, rfl⟩)
    go_ret
    exact ⟨by simp, (Below.refl _ _).alloc (Nat.le_refl _) _⟩

set_option linter.unusedSimpArgs false in
set_option maxHeartbeats 1000000 in
theorem specTouches_any (k a b v key : Int) (w : World) :
    Calls Try.prog 25 #[.agg #[.int .i64 k, .int .i64 a, .int .i64 b, .int .i64 v], .int .i64 key] w fun e w' => e = .returned (.bool (Ch.touches k a b v key)) ∧ Below w.heap.size w w' := by
  have hs := fun W => specOp_any k a b v W
  have ht := fun W => l14Touches_any k a b v key W
  by_cases hF : Ch.opFault k a b v = 0
  · rw [hF] at hs
    by_cases hK : Ch.inB key 0 99 = true
    · rw [Ch.touches_ok hF hK]
      clear hF
      generalize Ch.touch k a b key = T at *
      go_enter Try.func25, Try.ntmps25
      go_wp2_with fail
      refine (hs _).mono ?_
      rintro e w1 ⟨rfl, b1⟩
      obtain ⟨c2, f2⟩ := bcell b1
      have x0 := c2 w.heap.size 0 (by simp)
      have x1 := c2 w.heap.size 1 (by simp)
      have x2 := c2 w.heap.size 2 (by simp)
      have x3 := c2 w.heap.size 3 (by simp)
      clear c2 f2
      simp [go_sem] at x0 x1 x2 x3
      go_wp2_with (go_at_call 54; refine (key_any _ _).mono ?_; rintro e w' ⟨rfl, rfl⟩)
      refine (ht _).mono ?_
      rintro e w2 ⟨rfl, b2⟩
      have b2' := b1.trans (b2.mono b1.size)
      go_wp2
      go_ret
      exact ⟨rfl, below_box b2'⟩
    · have hK' : Ch.inB key 0 99 = false := by simpa using hK
      rw [Ch.touches_key hK']
      clear hF hK
      go_enter Try.func25, Try.ntmps25
      go_wp2_with fail
      refine (hs _).mono ?_
      rintro e w1 ⟨rfl, b1⟩
      go_wp2_with (go_at_call 54; refine (key_any _ _).mono ?_; rintro e w' ⟨rfl, rfl⟩)
      go_ret
      exact ⟨rfl, below_box b1⟩
  · rw [Ch.touches_bad hF]
    have hF' : (Ch.opFault k a b v == 0) = false := by simpa using hF
    clear hF
    generalize Ch.opFault k a b v = F at *
    go_enter Try.func25, Try.ntmps25
    go_wp2_with fail
    refine (hs _).mono ?_
    rintro e w1 ⟨rfl, b1⟩
    go_wp2
    go_ret
    exact ⟨rfl, below_box b1⟩

set_option linter.unusedSimpArgs false in
set_option maxHeartbeats 4000000 in
theorem implTouches_any (k a b v key : Int) (w : World) :
    Calls Try.prog 27 #[.agg #[.int .i64 k, .int .i64 a, .int .i64 b, .int .i64 v], .int .i64 key] w fun e w' => e = .returned (.bool (Ch.touches k a b v key)) ∧ Below w.heap.size w w' := by
  have hs := fun W => implOp_any k a b v W
  by_cases hF : Ch.opFault k a b v = 0
  · rw [hF] at hs
    by_cases hK : Ch.inB key 0 99 = true
    · rw [Ch.touches_ok hF hK]
      rcases Ch.op_kinds hF with h1 | h1 | h1 | h1 | h1 | h1 | h1 | h1 | h1 | h1
      all_goals
        subst h1
        simp only [Ch.touch]
        clear hF
        by_cases hL : a ≤ key
        all_goals
          go_enter Try.func27, Try.ntmps27
          go_wp2_with fail
          refine (hs _).mono ?_
          rintro e w1 ⟨rfl, b1⟩
          obtain ⟨c2, f2⟩ := bcell b1
          have x0 := c2 w.heap.size 0 (by simp)
          have x1 := c2 w.heap.size 1 (by simp)
          have x2 := c2 w.heap.size 2 (by simp)
          have x3 := c2 w.heap.size 3 (by simp)
          clear c2 f2
          simp [go_sem] at x0 x1 x2 x3
          go_wp2_with (go_at_call 57; refine (isKey_any _ _).mono ?_; rintro e w' ⟨rfl, rfl⟩)
          go_ret
          exact ⟨by first | (simp [Ch.inB, hL]; done) | (simp [Ch.inB, hL]; omega), below_box b1⟩
    · have hK' : Ch.inB key 0 99 = false := by simpa using hK
      rw [Ch.touches_key hK']
      clear hF hK
      go_enter Try.func27, Try.ntmps27
      go_wp2_with fail
      refine (hs _).mono ?_
      rintro e w1 ⟨rfl, b1⟩
      go_wp2_with (go_at_call 57; refine (isKey_any _ _).mono ?_; rintro e w' ⟨rfl, rfl⟩)
      go_ret
      exact ⟨rfl, below_box b1⟩
  · rw [Ch.touches_bad hF]
    have hF' : (Ch.opFault k a b v != 0) = true := by simpa using hF
    clear hF
    generalize Ch.opFault k a b v = F at *
    go_enter Try.func27, Try.ntmps27
    go_wp2_with fail
    refine (hs _).mono ?_
    rintro e w1 ⟨rfl, b1⟩
    go_wp2
    go_ret
    exact ⟨rfl, below_box b1⟩
end Go.Proofs.Ytlpncikiaojmiaa

/- Writes and ends: of the program and of the model; what must not come behind an act. -/
namespace Go.Proofs.Ytlpncikiaojmiaa
open Go.RowKit

theorem isWrite_any (k : Int) (w : World) : Calls Try.prog 61 #[.int .i64 k] w fun e w' => e = .returned (.bool (Ch.isW k)) ∧ w' = w := by
  unfold Ch.isW
  by_cases h2 : (k == 2) = true
  · go_enter Try.func61, Try.ntmps61
    go_wp2
    go_ret
    exact ⟨by simp [h2], rfl⟩
  · have h2' : (k == 2) = false := by simpa using h2
    clear h2
    go_enter Try.func61, Try.ntmps61
    go_wp2
    go_ret
    exact ⟨by simp [h2'], rfl⟩
theorem isEnd_any (k : Int) (w : World) : Calls Try.prog 52 #[.int .i64 k] w fun e w' => e = .returned (.bool (Ch.isE k)) ∧ w' = w := by
  unfold Ch.isE
  by_cases h2 : (k == 6) = true
  · go_enter Try.func52, Try.ntmps52
    go_wp2
    go_ret
    exact ⟨by simp [h2], rfl⟩
  · have h2' : (k == 6) = false := by simpa using h2
    clear h2
    go_enter Try.func52, Try.ntmps52
    go_wp2
    go_ret
    exact ⟨by simp [h2'], rfl⟩
theorem l14Writes_any (k a b v : Int) (w : World) : Calls Try.prog 59 #[.agg #[.int .i64 k, .int .i64 a, .int .i64 b, .int .i64 v]] w fun e w' => e = .returned (.bool (Ch.isW k)) ∧ Below w.heap.size w w' := by
  unfold Ch.isW
  by_cases h2 : (k == 2) = true
  · go_enter Try.func59, Try.ntmps59
    go_wp2
    go_ret
    exact ⟨by simp [h2], (Below.refl _ _).alloc (Nat.le_refl _) _⟩
  · have h2' : (k == 2) = false := by simpa using h2
    clear h2
    go_enter Try.func59, Try.ntmps59
    go_wp2
    go_ret
    exact ⟨by simp [h2'], (Below.refl _ _).alloc (Nat.le_refl _) _⟩
theorem l14Ends_any (k a b v : Int) (w : World) : Calls Try.prog 74 #[.agg #[.int .i64 k, .int .i64 a, .int .i64 b, .int .i64 v]] w fun e w' => e = .returned (.bool (Ch.isE k)) ∧ Below w.heap.size w w' := by
  unfold Ch.isE
  by_cases h2 : (k == 6) = true
  · go_enter Try.func74, Try.ntmps74
    go_wp2
    go_ret
    exact ⟨by simp [h2], (Below.refl _ _).alloc (Nat.le_refl _) _⟩
  · have h2' : (k == 6) = false := by simpa using h2
    clear h2
    go_enter Try.func74, Try.ntmps74
    go_wp2
    go_ret
    exact ⟨by simp [h2'], (Below.refl _ _).alloc (Nat.le_refl _) _⟩
end Go.Proofs.Ytlpncikiaojmiaa

