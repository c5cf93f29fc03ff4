/- Several texts in one: LvsM, MarkL, CopyW, DelW, InsW, InsG, DropS, ResL, DropI, PutA, PutB, PutC, PutD, PutE, PutF, RecM, SetM, UndM, SetN, MrgM, FillI. -/
import Derived.Test.YthfanfnbjldddaaGoodM
import Derived.Test.YthfanfnbjldddaaLvL
import Derived.Test.YthfanfnbjldddaaScanW
import Derived.Lib.SliceRun
import Derived.Deep.RegionLaw
import Derived.Laws.IdiomCopy
import Derived.Lib.AppendZerosOnto
import Derived.Lib.Overlaps
import Derived.Laws.Externs
import Derived.Laws.NewBlocks
import Derived.Test.YthfanfnbjldddaaDropM
import Derived.Test.YthfanfnbjldddaaFindW
import Derived.Test.YthfanfnbjldddaaForW
import Derived.Test.YthfanfnbjldddaaFindI
import Derived.Deep.Cut
import Derived.Test.YthfanfnbjldddaaPutM
import Derived.BigQuiet
import Derived.Test.YthfanfnbjldddaaPutN
import Derived.Test.YthfanfnbjldddaaMath
import Derived.Test.YthfanfnbjldddaaUnM
import Derived.Test.YthfanfnbjldddaaMapM
import Derived.Test.YthfanfnbjldddaaAllI


/- What a put and a drop leave behind: plain. -/
namespace Go.Proofs.Ythfanfnbjldddaa.Ch
theorem into_mem {r : Row} {l : List Row} {x : Row} : x ∈ into r l ↔ x = r ∨ (x ∈ l ∧ x.k ≠ r.k) := by
  induction l with
  | nil => simp [into]
  | cons y l ih =>
    simp only [into]
    split
    · rename_i hy
      rw [List.mem_cons, ih, List.mem_cons]
      constructor
      · rintro (rfl | rfl | ⟨h1, h2⟩)
        · exact .inr ⟨.inl rfl, by omega⟩
        · exact .inl rfl
        · exact .inr ⟨.inr h1, h2⟩
      · rintro (rfl | ⟨rfl | h1, h2⟩)
        · exact .inr (.inl rfl)
        · exact .inl rfl
        · exact .inr (.inr ⟨h1, h2⟩)
    · rw [List.mem_cons, List.mem_filter]
      simp [notK]
theorem into_up {r : Row} {l : List Row} (h : l.Pairwise (fun a b => a.k < b.k)) : (into r l).Pairwise (fun a b => a.k < b.k) := by
  induction l with
  | nil => simp [into]
  | cons y l ih =>
    obtain ⟨h1, h2⟩ := List.pairwise_cons.1 h
    simp only [into]
    split
    · rename_i hy
      refine List.Pairwise.cons (fun x hx => ?_) (ih h2)
      rcases into_mem.1 hx with rfl | ⟨hx, _⟩
      · exact hy
      · exact h1 x hx
    · rename_i hy
      refine List.Pairwise.cons (fun x hx => ?_) (h.filter _)
      obtain ⟨hx, hk⟩ := List.mem_filter.1 hx
      simp [notK] at hk
      rcases List.mem_cons.1 hx with rfl | hx
      · omega
      · have := h1 x hx
        omega
theorem into_high {r : Row} {l c : List Row} (h : ∀ x ∈ c, r.k < x.k) : into r (l ++ c) = into r l ++ c := by
  induction l with
  | nil =>
    cases c with
    | nil => simp [into]
    | cons x c =>
      have h1 := h x List.mem_cons_self
      have h2 : (x :: c).filter (notK r.k) = x :: c := filter_all fun y hy => by have := h y hy; simp [notK]; omega
      simp only [List.nil_append, into, if_neg (show ¬ x.k < r.k by omega), h2]
      rfl
  | cons y l ih =>
    simp only [List.cons_append, into]
    split
    · rw [ih]; rfl
    · have h2 : c.filter (notK r.k) = c := filter_all fun y hy => by have := h y hy; simp [notK]; omega
      rw [← List.cons_append, List.filter_append, h2]
      rfl
theorem forAt_spec (ls : List (List Row)) (key : Int) (n : Nat) : (forAt ls key n = 0 ∨ firstK (ls.getD (forAt ls key n) []) ≤ key) ∧ ∀ k, forAt ls key n < k → k < n → key < firstK (ls.getD k []) := by
  induction n with
  | zero => exact ⟨.inl rfl, fun k _ h => by omega⟩
  | succ n ih =>
    by_cases h : firstK (ls.getD n []) ≤ key
    · rw [forAt_yes h]
      exact ⟨.inr h, fun k h1 h2 => by omega⟩
    · rw [forAt_no h]
      refine ⟨ih.1, fun k h1 h2 => ?_⟩
      by_cases e : k = n
      · subst e; omega
      · exact ih.2 k h1 (by omega)
theorem halves_flat (l : List Row) : (halves l).flatten = l := by
  unfold halves
  split <;> simp
/-- The rows of leaves into which a row is put: the row put into the rows. -/
theorem put_flat {ls : List (List Row)} {r : Row} (hg : leavesFault ls = 0) : (put ls r).flatten = into r ls.flatten := by
  unfold put
  by_cases h0 : ls.length = 0
  · rw [if_pos h0]
    obtain rfl := List.length_eq_zero_iff.1 h0
    simp [into]
  · rw [if_neg h0]
    have hp := forAt_lt (ls := ls) (key := r.k) (k := ls.length) (by omega)
    obtain ⟨s1, s2⟩ := forAt_spec ls r.k ls.length
    generalize forAt ls r.k ls.length = p at *
    have hup := up_of hg
    have hs := split_at ls [] p hp
    have hA : ∀ x ∈ (ls.take p).flatten, x.k < r.k := by
      intro x hx
      obtain ⟨l, hl, hxl⟩ := List.mem_flatten.1 hx
      obtain ⟨i, hi, rfl⟩ := List.getElem_of_mem hl
      have hip : i < p := by simp at hi; omega
      rcases s1 with s1 | s1
      · omega
      · obtain ⟨y, hy, ey⟩ := first_mem (good_leaf hg p hp).1
        have := List.pairwise_iff_getElem.1 hup.2 i p (by omega) hp hip x (by simpa using hxl) y (by rw [← getD_get ls [] p hp]; exact hy)
        omega
    have hC : ∀ x ∈ (ls.drop (p + 1)).flatten, r.k < x.k := by
      intro x hx
      obtain ⟨l, hl, hxl⟩ := List.mem_flatten.1 hx
      obtain ⟨i, hi, rfl⟩ := List.getElem_of_mem hl
      have hin : p + 1 + i < ls.length := by simp at hi; omega
      have h1 := s2 (p + 1 + i) (by omega) hin
      have hxl' : x ∈ ls[p + 1 + i] := by simpa using hxl
      have h2 := pair_first (hup.1 _ (List.getElem_mem hin)) x hxl'
      rw [getD_get ls [] _ hin] at h1
      omega
    conv => rhs; rw [hs]
    rw [List.flatten_append, List.flatten_append, halves_flat, List.flatten_append, List.flatten_cons, into_low hA, into_high hC, List.append_assoc]
theorem into_find {r : Row} {l : List Row} : (into r l).find? (fun x => x.k == r.k) = some r := by
  induction l with
  | nil => simp [into]
  | cons y l ih =>
    simp only [into]
    split
    · rename_i hy
      rw [List.find?_cons_of_neg (by simp; omega)]
      exact ih
    · rw [List.find?_cons_of_pos (by simp)]
theorem into_find_other {r : Row} {l : List Row} {k : Int} (h : k ≠ r.k) : (into r l).find? (fun x => x.k == k) = l.find? (fun x => x.k == k) := by
  have hf : ∀ m : List Row, (m.filter (notK r.k)).find? (fun x => x.k == k) = m.find? (fun x => x.k == k) := by
    intro m
    induction m with
    | nil => rfl
    | cons y m ih =>
      by_cases hy : notK r.k y = true
      · rw [List.filter_cons, if_pos hy, List.find?_cons, List.find?_cons, ih]
      · have e : y.k = r.k := by simpa [notK] using hy
        rw [List.filter_cons, if_neg hy, ih, List.find?_cons_of_neg (by simp; omega)]
  induction l with
  | nil => simp only [into]; rw [List.find?_cons_of_neg (by simp; omega)]
  | cons y l ih =>
    simp only [into]
    split
    · rw [List.find?_cons, List.find?_cons, ih]
    · rw [List.find?_cons_of_neg (by simp; omega), hf]
theorem put_find {ls : List (List Row)} {r : Row} (hg : leavesFault ls = 0) : findR (put ls r) r.k = some r := by
  unfold findR
  rw [put_flat hg]
  exact into_find
theorem put_find_other {ls : List (List Row)} {r : Row} (hg : leavesFault ls = 0) {k : Int} (h : k ≠ r.k) : findR (put ls r) k = findR ls k := by
  unfold findR
  rw [put_flat hg]
  exact into_find_other h
theorem halves_four {l x : List Row} (h : x ∈ halves l) (h5 : l.length ≤ 5) : x.length ≤ 4 := by
  unfold halves at h
  split at h
  · simp only [List.mem_singleton] at h; subst h; omega
  · simp only [List.mem_cons, List.not_mem_nil, or_false] at h
    rcases h with rfl | rfl <;> simp <;> omega
theorem put_good {ls : List (List Row)} {r : Row} (hg : leavesFault ls = 0) (hr : r.fault = 0) (hl : (put ls r).length ≤ 60) : leavesFault (put ls r) = 0 := by
  have hgi := (good_iff ls).1 hg
  refine (good_iff _).2 ⟨hl, fun x hx => ⟨by have := (put_mem hg hx).1; omega, ?_⟩, fun x hx => ?_, ?_⟩
  · unfold put at hx
    split at hx
    · simp only [List.mem_singleton] at hx; subst hx; simp
    · have hp := forAt_lt (ls := ls) (key := r.k) (k := ls.length) (by omega)
      rcases List.mem_append.1 hx with hx | hx
      · rcases List.mem_append.1 hx with hx | hx
        · exact (hgi.2.1 x (List.mem_of_mem_take hx)).2
        · refine halves_four hx ?_
          have h1 := into_len r (ls.getD (forAt ls r.k ls.length) [])
          have h2 := (hgi.2.1 (ls.getD (forAt ls r.k ls.length) []) (by rw [getD_get ls [] _ hp]; exact List.getElem_mem hp)).2
          omega
      · exact (hgi.2.1 x (List.mem_of_mem_drop hx)).2
  · rw [put_flat hg] at hx
    rcases into_mem.1 hx with rfl | ⟨h, _⟩
    · exact hr
    · exact hgi.2.2.1 x h
  · rw [put_flat hg]
    exact into_up hgi.2.2.2
theorem drop_flat (ls : List (List Row)) (key : Int) : (drop ls key).flatten = ls.flatten.filter (notK key) := by
  unfold drop
  induction ls with
  | nil => rfl
  | cons l ls ih =>
    rw [List.map_cons, List.filter_cons, List.flatten_cons, List.filter_append, ← ih]
    split
    · rw [List.flatten_cons]
    · rename_i h
      have : l.filter (notK key) = [] := by
        unfold full at h
        simp only [decide_eq_true_eq] at h
        exact List.length_eq_zero_iff.1 (by omega)
      rw [this]; rfl
theorem drop_good {ls : List (List Row)} (hg : leavesFault ls = 0) (key : Int) : leavesFault (drop ls key) = 0 := by
  have hgi := (good_iff ls).1 hg
  refine (good_iff _).2 ⟨?_, fun x hx => ?_, fun x hx => ?_, ?_⟩
  · have h1 := List.length_filter_le full (ls.map (List.filter (notK key)))
    rw [List.length_map] at h1
    unfold drop
    omega
  · unfold drop at hx
    obtain ⟨hx, hf⟩ := List.mem_filter.1 hx
    obtain ⟨l, hl, rfl⟩ := List.mem_map.1 hx
    have h1 := List.length_filter_le (notK key) l
    have h2 := (hgi.2.1 l hl).2
    unfold full at hf
    simp only [decide_eq_true_eq] at hf
    omega
  · rw [drop_flat] at hx
    exact hgi.2.2.1 x (List.mem_filter.1 hx).1
  · rw [drop_flat]
    exact hgi.2.2.2.filter _
theorem drop_find (ls : List (List Row)) (key : Int) : findR (drop ls key) key = none := by
  unfold findR
  rw [drop_flat, List.find?_eq_none]
  intro x hx
  have := (List.mem_filter.1 hx).2
  simpa [notK] using this
end Go.Proofs.Ythfanfnbjldddaa.Ch


/- Marks that a law writes into leaves. -/
namespace Go.Proofs.Ythfanfnbjldddaa
open Go.RowKit

theorem markRowS_own (s : Int) (B n : Nat) (a : Option Addr) (cap : Nat) (rs : List Ch.Row) (w : World) (hs0 : 0 < s) (hs1 : s ≤ 1099511627776) (hown : w.ownsRow B 105 3 (.slice a n cap) n (rcells rs)) (hn : n ≤ 1048579) :
    Calls Try.prog 94 #[.slice a n cap, .int .i64 s] w fun e w' => e = .returned (.int .i64 (s + 3 * n)) ∧ w'.ownsRow B 105 3 (.slice a n cap) n (rcells (rmarks s n)) ∧ w.grownBy w' (Value.slice a n cap).ownBlock := by
  rcases hown.2 with ⟨hv, h0⟩ | ⟨g, cp, cur, hv, _⟩
  · simp only [Value.slice.injEq] at hv
    obtain ⟨rfl, rfl, rfl⟩ := hv
    refine (markRowS_nil s w).mono ?_
    rintro e w1 ⟨rfl, rfl⟩
    exact ⟨by simp, World.ownsRow_nil _ _ _ _, ⟨rfl, rfl, rfl, Nat.le_refl _, fun _ _ _ => rfl⟩⟩
  · simp only [Value.slice.injEq, true_and] at hv
    obtain ⟨rfl, rfl⟩ := hv
    exact markRowS_any s B g n cap rs w hs0 hs1 hown hn

/-- Leaves of one's own, their lists told. -/
def OwnV (w : World) (B : Nat) (v : Value) (n : Nat) (vs : List Value) (ls : List (List Ch.Row)) : Prop :=
  ls.length = n ∧ w.ownsRow B 107 1 v n vs ∧
    (∀ i, i < n → ∃ x, vs[i]? = some x ∧ w.ownsRow B 105 3 x (ls.getD i []).length (rcells (ls.getD i []))) ∧
    (∀ (i j : Nat) (x y : Value) (g : Nat), i < j → vs[i]? = some x → vs[j]? = some y → x.ownBlock = some g → y.ownBlock ≠ some g) ∧
    (∀ (i : Nat) (x : Value) (g : Nat), vs[i]? = some x → v.ownBlock = some g → x.ownBlock ≠ some g)
theorem OwnLv.told {w : World} {B n : Nat} {v : Value} {ls : List (List Ch.Row)} (h : OwnLv w B v n ls) : ∃ vs, OwnV w B v n vs ls := by
  obtain ⟨hl, vs, ho, hi, hd, hd'⟩ := h
  exact ⟨vs, hl, ho, hi, hd, hd'⟩
theorem OwnV.own {w : World} {B n : Nat} {v : Value} {vs : List Value} {ls : List (List Ch.Row)} (h : OwnV w B v n vs ls) : OwnLv w B v n ls := by
  obtain ⟨hl, ho, hi, hd, hd'⟩ := h
  exact ⟨hl, vs, ho, hi, hd, hd'⟩
theorem OwnV.lt {w : World} {B n : Nat} {v : Value} {vs : List Value} {ls : List (List Ch.Row)} (h : OwnV w B v n vs ls) : ∀ (i : Nat) (x : Value) (g : Nat), vs[i]? = some x → x.ownBlock = some g → B ≤ g ∧ g < w.heap.size := by
  intro i x g hx hg
  obtain ⟨hl, ho, hi, hd, hd'⟩ := h
  have hvl : vs.length = n := by have := ho.1; omega
  have hin : i < n := by
    rcases Nat.lt_or_ge i n with h | h
    · exact h
    · rw [List.getElem?_eq_none (by omega)] at hx; cases hx
  obtain ⟨y, h1, h2⟩ := hi i hin
  rw [hx] at h1; cases h1
  exact owns_lt h2 g hg

theorem OwnV.below {w w' : World} {B n : Nat} {v : Value} {vs : List Value} {ls : List (List Ch.Row)} (h : OwnV w B v n vs ls) (hb : Below w.heap.size w w') : OwnV w' B v n vs ls := by
  obtain ⟨hl, ho, hi, hd, hd'⟩ := h
  refine ⟨hl, owns_below ho hb, fun i hlt => ?_, hd, hd'⟩
  obtain ⟨x, h1, h2⟩ := hi i hlt
  exact ⟨x, h1, owns_below h2 hb⟩

/-- One leaf of one's own: where it lies, and what comes of it when it alone is written. -/
theorem OwnV.leafAt {w : World} {B n cap : Nat} {a : Option Addr} {vs : List Value} {ls : List (List Ch.Row)} (h : OwnV w B (.slice a n cap) n vs ls) {k : Nat} (hk : k < n) :
    ∃ b ai ci, a = some ⟨b, 0, none⟩ ∧ b < w.heap.size ∧ w.cell? ⟨b, k, none⟩ = some (.slice ai (ls.getD k []).length ci) ∧ vs[k]? = some (.slice ai (ls.getD k []).length ci) ∧ w.ownsRow B 105 3 (.slice ai (ls.getD k []).length ci) (ls.getD k []).length (rcells (ls.getD k [])) ∧
      ∀ (w' : World) (l' : List Ch.Row), w.grownBy w' (Value.slice ai (ls.getD k []).length ci).ownBlock → l'.length = (ls.getD k []).length → w'.ownsRow B 105 3 (.slice ai (ls.getD k []).length ci) l'.length (rcells l') → OwnV w' B (.slice a n cap) n vs (ls.set k l') := by
  obtain ⟨hl, ho, hi, hd, hd'⟩ := h
  obtain ⟨x, h1, h2⟩ := hi k hk
  obtain ⟨ai, ci, rfl⟩ := owns_shape h2
  have hc := owns_cells ho
  rw [Nat.mul_one] at hc
  rcases ho.2 with ⟨hv, h0⟩ | ⟨g, cp, cur, hv, _⟩
  · omega
  simp only [Value.slice.injEq, true_and] at hv
  obtain ⟨rfl, rfl⟩ := hv
  obtain ⟨b, off, ha, hcc⟩ := hc.2 (by omega)
  simp only [Option.some.injEq, Addr.mk.injEq, and_true] at ha
  obtain ⟨rfl, rfl⟩ := ha
  have hck := (hcc k hk).trans h1
  rw [Nat.zero_add] at hck
  refine ⟨g, ai, ci, rfl, lt_of_cell hck, hck, h1, h2, ?_⟩
  intro w' l' hg hl' hw'
  refine ⟨by simpa using hl, ?_, fun i hlt => ?_, hd, hd'⟩
  · exact owns_grown ho hg fun g' hg' e => hd' k _ g' h1 hg' e
  · by_cases hik : k = i
    · subst hik
      refine ⟨_, h1, ?_⟩
      have e : (ls.set k l').getD k [] = l' := by simp [List.getD, hl, hk]
      rw [e]
      exact hw'
    · obtain ⟨y, h3, h4⟩ := hi i hlt
      refine ⟨y, h3, ?_⟩
      have e : (ls.set k l').getD i [] = ls.getD i [] := by simp [List.getD, hik]
      rw [e]
      refine owns_grown h4 hg fun g' hg' e => ?_
      rcases Nat.lt_or_gt_of_ne hik with hlt' | hgt
      · exact hd k i _ y g' hlt' h1 h3 e hg'
      · exact hd i k y _ g' hgt h3 h1 hg' e

/-- The marks of leaves: each from where the one ahead ends. -/
def Ch.before (ls : List (List Ch.Row)) (k : Nat) : Nat := ((ls.take k).map List.length).sum
def lvMark (ls : List (List Ch.Row)) (k : Nat) : List Ch.Row := rmarks (1 + 3 * (Ch.before ls k : Int)) (ls.getD k []).length
def lvMarks (ls : List (List Ch.Row)) : List (List Ch.Row) := (List.range ls.length).map (lvMark ls)
def lvMarked (ls : List (List Ch.Row)) (k : Nat) : List (List Ch.Row) := (List.range k).map (lvMark ls) ++ ls.drop k
theorem lvMarked_set (ls : List (List Ch.Row)) (k : Nat) (h : k < ls.length) : (lvMarked ls k).set k (lvMark ls k) = lvMarked ls (k + 1) := by
  unfold lvMarked
  rw [Ch.set_mid _ _ _ _ (by simp) h, List.range_succ]
  simp
theorem lvMarked_at (ls : List (List Ch.Row)) (k : Nat) : (lvMarked ls k).getD k [] = ls.getD k [] := by
  unfold lvMarked
  rw [List.getD, List.getElem?_append_right (by simp)]
  simp [List.getD]
theorem Ch.before_next (ls : List (List Ch.Row)) (k : Nat) (h : k < ls.length) : Ch.before ls (k + 1) = Ch.before ls k + (ls.getD k []).length := Ch.lv_take ls k h
theorem Ch.before_small {ls : List (List Ch.Row)} (hs : Ch.lvSize ls ≤ 1048576) (k : Nat) : Ch.before ls k ≤ 1048576 := by
  have := Ch.lv_le ls k
  unfold Ch.lvSize at hs
  unfold Ch.before
  omega

set_option maxHeartbeats 400000 in
theorem markLeafS_any (B : Nat) (a : Option Addr) (n cap : Nat) (ls : List (List Ch.Row)) (w0 w : World) (h : OwnLv w0 B (.slice a n cap) n ls) (hb : Below w0.heap.size w0 w) (hs : Ch.lvSize ls ≤ 1048576) :
    Calls Try.prog 42 #[.slice a n cap, .int .i64 1] w fun e w' => e = .returned (.int .i64 (1 + 3 * (Ch.before ls n : Int))) ∧ OwnLv w' B (.slice a n cap) n (lvMarks ls) ∧ Within B w0.heap.size w w' := by
  have HL : Hid (ls.length = n) := h.1
  obtain ⟨vs, h⟩ := h.told
  have hlt0 := h.lt
  replace h := h.below hb
  have hn : n ≤ 1048576 := by unfold Ch.lvSize at hs; have := HL.out; omega
  go_enter Try.func42, Try.ntmps42
  go_wp2
  go_loopw [1, 5] (fun q i wr => ∃ k : Nat, k ≤ n ∧ i = .int .i64 k ∧ q = .int .i64 (1 + 3 * (Ch.before ls k : Int)) ∧ OwnV wr B (.slice a n cap) n vs (lvMarked ls k) ∧ Within B w0.heap.size w wr) (fun _ i _ => n - (intOf i).toNat)
  case atStart => exact ⟨0, Nat.zero_le _, rfl, by simp [Ch.before], by simpa [lvMarked] using h, Within.refl _ _ _⟩
  case round =>
    obtain ⟨k, hk, rfl, rfl, own, hW⟩ := hrel
    by_cases hlt : k < n
    · have hkl : k < ls.length := by have := HL.out; omega
      have HS := hid (Ch.lv_leaf hs k)
      have HB := hid (Ch.before_next ls k hkl)
      have hbs := Ch.before_small hs k
      have HM := hid (lvMarked_set ls k hkl)
      have HK : Hid (lvMark ls k = rmarks (1 + 3 * (Ch.before ls k : Int)) (ls.getD k []).length) := rfl
      have HWs := hid hW.size
      obtain ⟨b, ai, ci, rfl, hbl, hc, hvk, ho, hput⟩ := own.leafAt hlt
      rw [lvMarked_at ls k] at hc hvk ho hput
      generalize ls.getD k [] = l at *
      generalize Ch.before ls k = q at *
      go_wp2_with fail
      refine (markRowS_own (1 + 3 * (q : Int)) B l.length ai ci l _ (by omega) (by omega) ho (by have := HS.out; omega)).mono ?_
      rintro e w1 ⟨rfl, own1, gr1⟩
      go_wp2
      go_roundw
      case rel =>
        refine ⟨k + 1, by omega, by go_num, by rw [HB.out]; simp; omega, ?_, ?_⟩
        · rw [← HM.out]
          refine hput _ _ gr1 (by rw [HK.out, rmarks_len]) ?_
          rw [HK.out, rmarks_len]
          exact own1
        · rcases ho.2 with ⟨hv, _⟩ | ⟨g, cp, cur, hv, _⟩
          · rw [hv] at gr1
            exact hW.trans ⟨gr1.os, gr1.tape, gr1.output, gr1.size, fun j hj _ => gr1.block j hj (by simp [Value.ownBlock])⟩
          · have hgb := hlt0 k _ g hvk (by rw [hv]; rfl)
            rw [hv] at gr1
            exact hW.trans (within_grown gr1 hgb.1 hgb.2)
      case measure => simp [intOf]; omega
    · obtain rfl : k = n := by omega
      go_wp2
      go_ret
      refine ⟨rfl, ?_, hW⟩
      have e := HL.out
      subst e
      simpa [lvMarked, lvMarks] using own.own

end Go.Proofs.Ythfanfnbjldddaa


/- Copies of rows and of leaves: the program's cloneLeaves. -/
namespace Go.Proofs.Ythfanfnbjldddaa
open Go.RowKit

set_option maxHeartbeats 400000 in
theorem cloneRows_any (ad : Addr) (n cap : Nat) (rs : List Ch.Row) (w : World) (h : CellsAt w (some ad) (n * 3) (rcells rs)) (hn : n ≤ 1048576) :
    Calls Try.prog 133 #[.slice (some ad) n cap] w fun e w' => ∃ a' c', e = .returned (.slice a' n c') ∧ w'.ownsRow w.heap.size 105 3 (.slice a' n c') n (rcells rs) ∧ Below w.heap.size w w' := by
  have hnil := fun W => Lib.run_eql_slice_nil (P := Try.prog) W 42 105 (some ad) n cap 0 0 Try.underlying42
  simp only [Option.isNone_some] at hnil
  have hb0 : Below w.heap.size w (w.alloc (.cells #[] 105)) := (Below.refl _ _).alloc (Nat.le_refl _) _
  have hc := h.below hb0
  have ho := empty_rows w w.heap.size (Nat.le_refl _)
  have hm : 0 + n ≤ 2097152 := by omega
  go_enter Try.func133, Try.ntmps133
  go_wp2_with (at_builtin; go_must (refine wpList_appRs (.tmp 5) (.tmp 6) w.heap.size (.slice (some ⟨w.heap.size, 0, none⟩) 0 0) 0 [] n rs hm ?_ ?_ ?_ ?_ ?_ ?_ ?_; exact rfl; exact rfl; exact rfl; exact ⟨_, _, rfl, hc⟩; exact ho; (focus (simp; done)); intro a1 c1 w1 own1 b1))
  go_ret
  rw [Nat.zero_add] at own1
  exact ⟨a1, c1, rfl, by simpa using own1, hb0.trans b1⟩

/-- Leaves appended to leaves: their lists as they are. -/
theorem wpList_appLv {ops : Array Oper} {rest : List Oper} {o : Oper} {a : Act} {w : World} {Q : Exit → Act → World → Prop} (s x : Operand)
    (B : Nat) (v : Value) (n : Nat) (xs : List Value) (m : Nat) (ys : List Value) (hm : n + m ≤ 2097152) (h1 : ∀ u ∈ ys, u.oneCell' = true)
    (ho : o.op = .call { callee := .builtin .append, args := #[s, x], argTypes := #[24, 24] }) (hgd : o.guard = none)
    (hs : a.eval s = v) (hx : ∃ ad c, a.eval x = .slice (some ad) m c ∧ CellsAt w (some ad) m ys)
    (hown : w.ownsRow B 107 1 v n xs) (hbase : B ≤ w.heap.size)
    (hK : ∀ a' c' w', w'.ownsRow B 107 1 (.slice a' (n + m) c') (n + m) (xs ++ ys) → w.grownBy w' v.ownBlock → (∀ g, (Value.slice a' (n + m) c').ownBlock = some g → v.ownBlock = some g ∨ w.heap.size ≤ g) → wpList Try.prog ops Q rest (a.put o.dst (.slice a' (n + m) c')) w') (hm0 : 0 < m) :
    wpList Try.prog ops Q (o :: rest) a w := by
  obtain ⟨ad, c, hx, hc⟩ := hx
  obtain ⟨i0, hi, hz0, hz1, hz2⟩ := info_parts Try.info107
  refine wpList_append_lies w hgd s x 24 ho B 107 i0 _ 1 24 Try.underlying24 hi hz0 hz1 hz2 rfl (by omega) v n xs hs hown ad m c ys hx (by rw [Nat.mul_one]; exact hc.1) ?_ h1 hm0 (by unfold maxLen; omega) (by omega) hbase _ rfl ?_
  · intro j u hj
    have hjl : j < ys.length := (List.getElem?_eq_some_iff.1 hj).1
    have hl := hc.1
    obtain ⟨b, off, ha, hcc⟩ := hc.2 (by omega)
    simp only [Option.some.injEq] at ha
    subst ha
    have e : (⟨b, off, none⟩ : Addr).add j = ⟨b, off + j, none⟩ := by
      unfold Addr.add
      split
      · next h0 => subst h0; rfl
      · rfl
    rw [e, hcc j (by omega), hj]
  · intro g cp' w' hown' hgrow hat hlt
    refine hK _ _ w' hown' hgrow fun g' hg' => ?_
    simp [Value.ownBlock] at hg'
    subst hg'
    rcases hat with hat | hat
    · exact .inl hat
    · exact .inr (by omega)

theorem empty_leaves (w : World) (B : Nat) (hB : B ≤ w.heap.size) : (w.alloc (.cells #[] 107)).ownsRow B 107 1 (.slice (some ⟨w.heap.size, 0, none⟩) 0 0) 0 [] :=
  World.ownsRow_lit w #[] 0 hB (by unfold maxLen; omega) rfl

set_option maxHeartbeats 400000 in
theorem cloneLeafS_any (ad : Addr) (n cap : Nat) (vs : List Value) (w : World) (h : CellsAt w (some ad) n vs) (h1 : ∀ u ∈ vs, u.oneCell' = true) (hn : n ≤ 1048576) (hn0 : 0 < n) :
    Calls Try.prog 132 #[.slice (some ad) n cap] w fun e w' => ∃ g c', e = .returned (.slice (some ⟨g, 0, none⟩) n c') ∧ w'.ownsRow w.heap.size 107 1 (.slice (some ⟨g, 0, none⟩) n c') n vs ∧ Below w.heap.size w w' := by
  have hnil := fun W => Lib.run_eql_slice_nil (P := Try.prog) W 24 107 (some ad) n cap 0 0 Try.underlying24
  simp only [Option.isNone_some] at hnil
  have hb0 : Below w.heap.size w (w.alloc (.cells #[] 107)) := (Below.refl _ _).alloc (Nat.le_refl _) _
  have hc := h.below hb0
  have ho := empty_leaves w w.heap.size (Nat.le_refl _)
  have hm : 0 + n ≤ 2097152 := by omega
  go_enter Try.func132, Try.ntmps132
  go_wp2_with (at_builtin; go_must (refine wpList_appLv (.tmp 5) (.tmp 6) w.heap.size (.slice (some ⟨w.heap.size, 0, none⟩) 0 0) 0 [] n vs hm h1 ?_ ?_ ?_ ?_ ?_ ?_ ?_ hn0; exact rfl; exact rfl; exact rfl; exact ⟨_, _, rfl, hc⟩; exact ho; (focus (simp; done)); intro a1 c1 w1 own1 gr1 at1))
  go_ret
  rw [Nat.zero_add] at own1
  rcases own1.2 with ⟨hv, hn00⟩ | ⟨g, cp, cur, hv, _⟩
  · omega
  · simp only [Value.slice.injEq, true_and] at hv
    obtain ⟨rfl, rfl⟩ := hv
    exact ⟨g, c1, rfl, by simpa using own1, hb0.grown gr1 (by simp) (fun k hk => by simp [Value.ownBlock] at hk; omega)⟩

/-- Leaves whose first k lists are copies of one's own; the others are as they were. -/
def PartLv (w : World) (B : Nat) (v : Value) (n k : Nat) (vs0 : List Value) (ls : List (List Ch.Row)) : Prop :=
  ls.length = n ∧ ∃ vs : List Value, w.ownsRow B 107 1 v n vs ∧
    (∀ i, i < k → ∃ x, vs[i]? = some x ∧ w.ownsRow B 105 3 x (ls.getD i []).length (rcells (ls.getD i []))) ∧
    (∀ (i j : Nat) (x y : Value) (g : Nat), i < j → j < k → vs[i]? = some x → vs[j]? = some y → x.ownBlock = some g → y.ownBlock ≠ some g) ∧
    (∀ (i : Nat) (x : Value) (g : Nat), i < k → vs[i]? = some x → v.ownBlock = some g → x.ownBlock ≠ some g) ∧
    (∀ i, k ≤ i → vs[i]? = vs0[i]?)
theorem PartLv.whole {w : World} {B n : Nat} {v : Value} {vs0 : List Value} {ls : List (List Ch.Row)} (h : PartLv w B v n n vs0 ls) : OwnLv w B v n ls := by
  obtain ⟨hl, vs, ho, hi, hd, hd', _⟩ := h
  have hvl : vs.length = n := by have := ho.1; omega
  have hin : ∀ (i : Nat) (x : Value), vs[i]? = some x → i < n := by
    intro i x hx
    rcases Nat.lt_or_ge i n with h | h
    · exact h
    · rw [List.getElem?_eq_none (by omega)] at hx; cases hx
  exact ⟨hl, vs, ho, hi, fun i j x y g hij hx hy => hd i j x y g hij (hin j y hy) hx hy, fun i x g hx => hd' i x g (hin i x hx) hx⟩
theorem PartLv.below {w w' : World} {B n k : Nat} {v : Value} {vs0 : List Value} {ls : List (List Ch.Row)} (h : PartLv w B v n k vs0 ls) (hb : Below w.heap.size w w') : PartLv w' B v n k vs0 ls := by
  obtain ⟨hl, vs, ho, hi, hd, hd', hr⟩ := h
  refine ⟨hl, vs, owns_below ho hb, fun i hlt => ?_, hd, hd', hr⟩
  obtain ⟨x, h1, h2⟩ := hi i hlt
  exact ⟨x, h1, owns_below h2 hb⟩
/-- The next list is copied. -/
theorem PartLv.put {w0 w : World} {B o n cap k : Nat} {vs0 : List Value} {ls : List (List Ch.Row)} {x : Value} (h : PartLv w0 B (.slice (some ⟨o, 0, none⟩) n cap) n k vs0 ls) (hb : Below w0.heap.size w0 w)
    (hx : w.ownsRow w0.heap.size 105 3 x (ls.getD k []).length (rcells (ls.getD k []))) (hk : k < n) (hB : B ≤ w0.heap.size) : PartLv (w.setCell ⟨o, k, none⟩ x) B (.slice (some ⟨o, 0, none⟩) n cap) n (k + 1) vs0 ls := by
  obtain ⟨hl, vs, ho, hi, hd, hd', hr⟩ := h
  have ho1 := owns_below ho hb
  have hvl : vs.length = n := by have := ho.1; omega
  have hst := ho1.stored k x
  have hob := owns_bounds ho
  have fresh : ∀ g, x.ownBlock = some g → w0.heap.size ≤ g := fun g hg => (owns_lt hx g hg).1
  have old : ∀ (i : Nat) (y : Value) (g : Nat), i < k → vs[i]? = some y → y.ownBlock = some g → g < w0.heap.size := by
    intro i y g hin hy hg
    obtain ⟨y', h1, h2⟩ := hi i hin
    rw [hy] at h1; cases h1
    exact (owns_lt h2 g hg).2
  refine ⟨hl, vs.set k x, hst.1, fun i hlt => ?_, ?_, ?_, ?_⟩
  · by_cases hik : k = i
    · subst hik
      refine ⟨x, by simp [hvl, hk], ?_⟩
      refine owns_base (owns_grown hx hst.2 fun g hg he => ?_) hB
      have := fresh g hg
      simp at he
      omega
    · obtain ⟨y, h1, h2⟩ := hi i (by omega)
      refine ⟨y, by rw [List.getElem?_set_ne hik]; exact h1, ?_⟩
      refine owns_grown (owns_below h2 hb) hst.2 fun g hg he => ?_
      simp at he
      subst he
      exact hd' i y _ (by omega) h1 rfl hg
  · intro i j y z g hij hjk hy hz hyg hzg
    rw [List.getElem?_set_ne (by omega)] at hy
    by_cases hjk' : k = j
    · subst hjk'
      rw [List.getElem?_set_self (by omega)] at hz
      cases hz
      have := fresh g hzg
      have := old i y g (by omega) hy hyg
      omega
    · rw [List.getElem?_set_ne hjk'] at hz
      exact hd i j y z g hij (by omega) hy hz hyg hzg
  · intro i y g hik hy hg hyg
    by_cases hik' : k = i
    · subst hik'
      rw [List.getElem?_set_self (by omega)] at hy
      cases hy
      have := fresh g hyg
      simp [Value.ownBlock] at hg
      omega
    · rw [List.getElem?_set_ne hik'] at hy
      exact hd' i y g (by omega) hy hg hyg
  · intro i hik
    rw [List.getElem?_set_ne (by omega)]
    exact hr i (by omega)

set_option maxHeartbeats 800000 in
theorem cloneLeaves_any (a : Option Addr) (n cap : Nat) (ls : List (List Ch.Row)) (w : World) (h : LvAt w a n ls) (hs : Ch.lvSize ls ≤ 1048576) (hg : ∀ k, k < n → (ls.getD k []).length ≠ 0) (hn0 : 0 < n) :
    Calls Try.prog 106 #[.slice a n cap] w fun e w' => ∃ g c', e = .returned (.slice (some ⟨g, 0, none⟩) n c') ∧ OwnLv w' w.heap.size (.slice (some ⟨g, 0, none⟩) n c') n ls ∧ Below w.heap.size w w' := by
  have HL := h.len
  have hn : n ≤ 1048576 := by unfold Ch.lvSize at hs; have := HL.out; omega
  obtain ⟨hl, vs, hc, hi⟩ := h
  obtain ⟨b, off, rfl, hcc⟩ := hc.2 hn0
  have hone : ∀ u ∈ vs, u.oneCell' = true := by
    intro u hu
    obtain ⟨j, hj, rfl⟩ := List.getElem_of_mem hu
    have hvl := hc.1
    obtain ⟨ai, ni, ci, h1, _⟩ := hi j (by omega)
    rw [List.getElem?_eq_getElem hj] at h1
    simp only [Option.some.injEq] at h1
    rw [h1]; rfl
  have H : LvAt w (some ⟨b, off, none⟩) n ls := ⟨hl, vs, hc, hi⟩
  go_enter Try.func106, Try.ntmps106
  go_wp2_with fail
  refine (cloneLeafS_any ⟨b, off, none⟩ n cap vs _ hc hone hn hn0).mono ?_
  rintro e w1 ⟨g, c', rfl, o1, b1⟩
  have Lg := owns_bounds o1
  have P0 : PartLv w1 w.heap.size (.slice (some ⟨g, 0, none⟩) n c') n 0 vs ls := ⟨hl, vs, o1, fun i hi => absurd hi (by omega), fun i j x y g hij hj => absurd hj (by omega), fun i x g hi => absurd hi (by omega), fun i _ => rfl⟩
  clear o1
  go_wp2
  go_loopw [10] (fun i wr => ∃ k : Nat, k ≤ n ∧ i = .int .i64 k ∧ PartLv wr w.heap.size (.slice (some ⟨g, 0, none⟩) n c') n k vs ls ∧ Below w.heap.size w wr) (fun i _ => n - (intOf i).toNat)
  case atStart => exact ⟨0, Nat.zero_le _, rfl, P0, b1⟩
  case round =>
    clear P0 b1
    obtain ⟨k, hk, rfl, part, hB⟩ := hrel
    by_cases hlt : k < n
    · have HS := hid (Ch.lv_leaf hs k)
      have HP := part
      obtain ⟨_, us, ho, _, _, _, hr⟩ := part
      have hcu := owns_cells ho
      rw [Nat.mul_one] at hcu
      obtain ⟨b', off', hb', hcu⟩ := hcu.2 (by omega)
      simp only [Option.some.injEq, Addr.mk.injEq, and_true] at hb'
      obtain ⟨rfl, rfl⟩ := hb'
      obtain ⟨ai, ni, ci, h1, h2, h3⟩ := hi k hlt
      have hcell := (hcu k hlt).trans ((hr k (Nat.le_refl _)).trans h1)
      rw [Nat.zero_add] at hcell
      have hbl := lt_of_cell hcell
      have HRl := h2.rlen
      have hni : ni ≤ 1048576 := by have := HS.out; have := HRl.out; omega
      have hgk := hg k hlt
      obtain ⟨b1, o1, rfl, _⟩ := h2.row (k := 0) (by have := HRl.out; omega)
      clear ho hcu hr h1
      have bA : ∀ o, Below wr.heap.size wr (wr.alloc o) := fun o => (Below.refl _ _).alloc (Nat.le_refl _) _
      go_wp2_with fail
      refine (cloneRows_any ⟨b1, o1, none⟩ ni ci (ls.getD k []) _ (h2.below (hB.alloc hB.size _)) hni).mono ?_
      rintro e w2 ⟨a2, c2, rfl, o2, b2⟩
      have b2w := below_box b2
      have HO : PartLv w2 w.heap.size (.slice (some ⟨g, 0, none⟩) n c') n k vs ls := HP.below b2w
      obtain ⟨_, us', ho', _⟩ := HO
      have hf0 := ho'.frozenAt k
      obtain ⟨u0, hd0⟩ := owns_some ho' (j := k) (by omega)
      clear ho'
      go_wp2
      go_roundw
      case rel =>
        refine ⟨k + 1, by omega, by go_num, ?_, ?_⟩
        · refine PartLv.put (HP.below (bA _)) b2 ?_ hlt (by simp; exact Nat.le_trans hB.size (by omega))
          have := HRl.out
          subst this
          exact o2
        · exact (hB.trans (b2w.mono hB.size)).setCell (p := ⟨g, k, none⟩) (by simp; omega) _
      case measure => simp [intOf]; omega
    · obtain rfl : k = n := by omega
      go_wp2
      go_ret
      exact ⟨g, c', rfl, part.whole, hB⟩

end Go.Proofs.Ythfanfnbjldddaa


/- The library's Delete at rows and at leaves: one element. -/
namespace Go.Proofs.Ythfanfnbjldddaa
open Go.RowKit

theorem owns_setCells {base : Nat} {e : TypeId} {size g n cap : Nat} (news : List Value) : ∀ (j : Nat) (xs : List Value) (w : World), w.ownsRow base e size (.slice (some ⟨g, 0, none⟩) n cap) n xs → j + news.length ≤ xs.length →
    (w.setCells g j news).ownsRow base e size (.slice (some ⟨g, 0, none⟩) n cap) n (xs.take j ++ news ++ xs.drop (j + news.length)) ∧ w.grownBy (w.setCells g j news) (some g) := by
  induction news with
  | nil => intro j xs w h _; exact ⟨by simpa [World.setCells] using h, ⟨rfl, rfl, rfl, Nat.le_refl _, fun _ _ _ => rfl⟩⟩
  | cons u news ih =>
    intro j xs w h hj
    simp only [List.length_cons] at hj
    have hs := h.stored j u
    have ⟨h2, h3⟩ := ih (j + 1) _ _ hs.1 (by simp; omega)
    refine ⟨?_, gr_trans hs.2 h3⟩
    have e : (xs.set j u).take (j + 1) ++ news ++ (xs.set j u).drop (j + 1 + news.length) = xs.take j ++ u :: news ++ xs.drop (j + (news.length + 1)) := by
      rw [List.drop_set, if_pos (by omega), Ch.take_snoc _ u j (by simp; omega), List.take_set]
      rw [List.set_eq_of_length_le (by simp; omega)]
      have : (xs.set j u).getD j u = u := by simp [List.getD, show j < xs.length by omega]
      rw [this, show j + 1 + news.length = j + (news.length + 1) by omega]
      simp
    simp only [World.setCells, List.length_cons]
    rw [← e]
    exact h2
theorem owns_shrink {w : World} {base : Nat} {e : TypeId} {size g n cap m : Nat} {xs : List Value} (h : w.ownsRow base e size (.slice (some ⟨g, 0, none⟩) n cap) n xs) (hm : m ≤ n) : w.ownsRow base e size (.slice (some ⟨g, 0, none⟩) m cap) m (xs.take (m * size)) := by
  rcases h.2 with ⟨hv, _⟩ | ⟨g', cp, cur, hv, hb, hh, h1, h2, h3, h4⟩
  · simp at hv
  · simp only [Value.slice.injEq, Option.some.injEq, Addr.mk.injEq, and_true, true_and] at hv
    obtain ⟨rfl, rfl⟩ := hv
    have hle : m * size ≤ n * size := Nat.mul_le_mul_right _ hm
    refine ⟨by rw [List.length_take, h.1]; omega, .inr ⟨g, cap, cur, rfl, hb, hh, by omega, h2, h3, ?_⟩⟩
    rw [← h4, List.take_take, Nat.min_eq_left hle]

theorem clearR (w : World) (ty b o c : Nat) (hc : ∀ j, j < 3 → (w.cell? ⟨b, o + j, none⟩).isSome = true) (hf : ∀ j, j < 3 → w.frozen? ⟨b, o + j, none⟩ = false) :
    (Builtin.clear_ #[42] ty #[.slice (some ⟨b, o, none⟩) 1 c]).run Try.prog w = .ok (.tuple #[]) (w.setCells b o [.int .i64 0, .int .i64 0, .bool false]) := by
  have hv : ∀ W, (zeroValue 105).run Try.prog W = .ok (.agg #[.int .i64 0, .int .i64 0, .bool false]) W := fun _ => by kernel_rfl
  have hzc : (Builtin.zeroCells (Value.cells (.agg #[.int .i64 0, .int .i64 0, .bool false])) 1).toList = [.int .i64 0, .int .i64 0, .bool false] := by kernel_rfl
  have hst := run_storeCells_cells (P := Try.prog) b o [.int .i64 0, .int .i64 0, .bool false] 0 w (by simpa using hc) (by simpa using hf) (by decide)
  simp only [Nat.add_zero] at hst
  simp [Builtin.clear_, run_underlying Try.underlying42, hv, hzc, hst]

theorem clearL (w : World) (ty b o c : Nat) (hc : ∀ j, j < 1 → (w.cell? ⟨b, o + j, none⟩).isSome = true) (hf : ∀ j, j < 1 → w.frozen? ⟨b, o + j, none⟩ = false) :
    (Builtin.clear_ #[24] ty #[.slice (some ⟨b, o, none⟩) 1 c]).run Try.prog w = .ok (.tuple #[]) (w.setCells b o [.slice none 0 0]) := by
  have hv : ∀ W, (zeroValue 107).run Try.prog W = .ok (.agg #[.slice none 0 0]) W := fun _ => by kernel_rfl
  have hzc : (Builtin.zeroCells (Value.cells (.agg #[.slice none 0 0])) 1).toList = [.slice none 0 0] := by kernel_rfl
  have hst := run_storeCells_cells (P := Try.prog) b o [.slice none 0 0] 0 w (by simpa using hc) (by simpa using hf) (by decide)
  simp only [Nat.add_zero] at hst
  simp [Builtin.clear_, run_underlying Try.underlying24, hv, hzc, hst]

end Go.Proofs.Ythfanfnbjldddaa


/- The library's Insert at rows and at leaves: one element. -/
namespace Go.Proofs.Ythfanfnbjldddaa
open Go.RowKit

theorem owns_capN {w : World} {base : Nat} {e : TypeId} {size g n cap : Nat} {xs : List Value} (h : w.ownsRow base e size (.slice (some ⟨g, 0, none⟩) n cap) n xs) : n ≤ cap ∧ cap ≤ 9223372036854775807 := by
  rcases h.2 with ⟨hv, _⟩ | ⟨g', cp, cur, hv, hb, hh, h1, h2, _⟩
  · simp at hv
  · simp only [Value.slice.injEq] at hv
    obtain ⟨_, _, rfl⟩ := hv
    exact ⟨h1, by unfold maxLen at h2; exact h2⟩
theorem insert_cells (xs ys zs : List Value) (a b s : Nat) (hb : b = a + s) (hy : ys.length = s) (hz : zs.length = s) (hl : b ≤ xs.length) :
    (((xs ++ zs).take b ++ xs.drop a ++ (xs ++ zs).drop (b + (xs.drop a).length)).take a ++ ys ++ ((xs ++ zs).take b ++ xs.drop a ++ (xs ++ zs).drop (b + (xs.drop a).length)).drop (a + ys.length)) = xs.take a ++ ys ++ xs.drop a := by
  have hT : ((xs ++ zs).take b).length = b := by rw [List.length_take, List.length_append]; omega
  have hD : (xs ++ zs).drop (b + (xs.drop a).length) = [] := List.drop_of_length_le (by rw [List.length_append, List.length_drop]; omega)
  rw [hD, List.append_nil, List.take_append_of_le_length (by omega), List.take_take, Nat.min_eq_left (by omega), List.take_append_of_le_length (by omega), hy, ← hb, List.drop_append_of_le_length (by omega), List.drop_of_length_le (by omega), List.nil_append]
theorem owns_extend {w : World} {base : Nat} {e : TypeId} {size g n cap : Nat} {xs : List Value} (h : w.ownsRow base e size (.slice (some ⟨g, 0, none⟩) n cap) n xs) (hc : n + 1 ≤ cap) : ∃ zs : List Value, zs.length = size ∧ w.ownsRow base e size (.slice (some ⟨g, 0, none⟩) (n + 1) cap) (n + 1) (xs ++ zs) := by
  have hx := h.1
  rcases h.2 with ⟨hv, _⟩ | ⟨g', cp, cur, hv, hb, hh, h1, h2, h3, h4⟩
  · simp at hv
  · simp only [Value.slice.injEq, Option.some.injEq, Addr.mk.injEq, and_true, true_and] at hv
    obtain ⟨rfl, rfl⟩ := hv
    have hm : (n + 1) * size ≤ cap * size := Nat.mul_le_mul_right _ hc
    have hm2 : (n + 1) * size = n * size + size := by rw [Nat.add_mul, Nat.one_mul]
    refine ⟨(cur.toList.drop (n * size)).take size, by simp; omega, ?_, .inr ⟨g, cap, cur, rfl, hb, hh, hc, h2, h3, ?_⟩⟩
    · simp; omega
    · rw [hm2, List.take_add, h4]
/-- A copy whose run is known. -/
theorem wp_copyR {P : Program} (w : World) {o : Oper} {a : Act} {K : Act → World → Prop} {Q : Exit → Act → World → Prop} (d s : Operand) (t t' : TypeId)
    (ho : o.op = .call { callee := .builtin .copy, args := #[d, s], argTypes := #[t, t'] }) (v u : Value) (hd : a.eval d = v) (hs : a.eval s = u) {x : Value} {w' : World}
    (hr : (Builtin.copy_ #[t, t'] o.type #[v, u]).run P w = .ok x w') (hK : K (a.put o.dst x) w') : o.wp P a w K Q := by
  unfold Oper.wp
  simp [execOp, ho, resolve, invoke, builtin, hd, hs, hr, Result.andThen]
  exact hK
theorem wpList_copyR {P : Program} (w : World) {ops : Array Oper} {rest : List Oper} {o : Oper} {a : Act} {Q : Exit → Act → World → Prop} (hg : o.guard = none) (d s : Operand) (t t' : TypeId)
    (ho : o.op = .call { callee := .builtin .copy, args := #[d, s], argTypes := #[t, t'] }) (v u : Value) (hd : a.eval d = v) (hs : a.eval s = u) {x : Value} {w' : World}
    (hr : (Builtin.copy_ #[t, t'] o.type #[v, u]).run P w = .ok x w') (hK : wpList P ops Q rest (a.put o.dst x) w') : wpList P ops Q (o :: rest) a w :=
  wpList_plain hg fun _ h => wp_copyR w d s t t' ho v u hd hs hr (h _ _ hK)
theorem step_copyR {P : Program} {ops : Array Oper} {o : Oper} {a : Act} {w : World} {K : Act → World → Prop} {Q : Exit → Act → World → Prop} {E : Prop} (hg : o.guard = none) (d s : Operand) (t t' : TypeId)
    (ho : o.op = .call { callee := .builtin .copy, args := #[d, s], argTypes := #[t, t'] }) (v u : Value) (hd : a.eval d = v) (hs : a.eval s = u) {x : Value} {w' : World}
    (hr : (Builtin.copy_ #[t, t'] o.type #[v, u]).run P w = .ok x w') (hK : K (a.put o.dst x) w') : if Region.wanted o (yielded ops a.tmps) = true then Oper.wp P o a w K Q else E := by
  have hw : Region.wanted o (yielded ops a.tmps) = true := by simp [Region.wanted, hg]
  rw [if_pos hw]
  exact wp_copyR w d s t t' ho v u hd hs hr hK
theorem run_copyS {P : Program} (w : World) (dT sT ty elem : TypeId) (b o dLen dCap : Nat) (a : Addr) (sLen sCap size k : Nat) (cs : List Value) (i : TypeInfo)
    (hu : P.underlying dT = some (.slice elem)) (hi : P.info? elem = some i) (hs : i.size = size) (hk : Nat.min sLen dLen = k) (hn : cs.length = k * size)
    (hsrc : ∀ j v, cs[j]? = some v → w.cell? (a.add j) = some v) (hc : ∀ j, j < cs.length → (w.cell? ⟨b, o + j, none⟩).isSome = true) (hf : ∀ j, j < cs.length → w.frozen? ⟨b, o + j, none⟩ = false) (h1 : ∀ v ∈ cs, v.oneCell' = true) :
    (Builtin.copy_ #[dT, sT] ty #[.slice (some ⟨b, o, none⟩) dLen dCap, .slice (some a) sLen sCap]).run P w = .ok (goInt k) (w.setCells b o cs) := by
  have hl := run_loadCells_list (P := P) w a cs hsrc
  have hst := run_storeCells_cells (P := P) b o cs 0 w (by simpa using hc) (by simpa using hf) h1
  subst hk
  simp [Builtin.copy_, run_underlying hu, Builtin.lenOf, Builtin.firstCells, sizeOf, typeInfo, hi, hs, ← hn, hl, hst]

set_option maxRecDepth 100000 in
set_option maxHeartbeats 4000000 in
/-- Insert behind the last one. -/
theorem insertR_end (B g n cap vb : Nat) (xs ys : List Value) (w : World) (hown : w.ownsRow B 105 3 (.slice (some ⟨g, 0, none⟩) n cap) n xs) (hv : w.heap[vb]? = some (.cells ys.toArray 105 (0, 0))) (hy : ys.length = 3) (h1 : ∀ u ∈ ys, u.oneCell' = true) (hn : n ≤ 1048576) (hB : B ≤ w.heap.size) :
    Calls Try.prog 153 #[.slice (some ⟨g, 0, none⟩) n cap, .int .i64 n, .slice (some ⟨vb, 0, none⟩) 1 1] w fun e w' => ∃ g' c', e = .returned (.slice (some ⟨g', 0, none⟩) (n + 1) c') ∧ w'.ownsRow B 105 3 (.slice (some ⟨g', 0, none⟩) (n + 1) c') (n + 1) (xs ++ ys) ∧ w.grownBy w' (some g) ∧ (g' = g ∨ w.heap.size ≤ g') := by
  obtain ⟨i0, hi, hz0, hz1, hz2⟩ := info_parts Try.info105
  have hcap := owns_capN hown
  have hic : n ≤ cap := hcap.1
  have hnews : ∀ j u, ys[j]? = some u → w.cell? ((⟨vb, 0, none⟩ : Addr).add j) = some u := fun j u hj => World.news_of_block hv j u (by simpa using hj)
  have HY := hid (show ys.length = 1 * 3 by omega)
  have HN := hid hnews
  have hnn : ((n : Int) == (n : Int)) = true := by simp
  have hng : (Value.slice (some ⟨g, 0, none⟩) n cap).ownBlock = some g := rfl
  clear hnews hv hy
  go_enter Try.func153, Try.ntmps153
  go_wp2_with (at_builtin; go_must (refine wpList_append_lies w rfl (.tmp 23) (.tmp 24) 42 rfl B 105 i0 _ 3 24 Try.underlying42 hi hz0 hz1 hz2 rfl (by omega) (.slice (some ⟨g, 0, none⟩) n cap) n xs rfl hown ⟨vb, 0, none⟩ 1 1 ys rfl HY.out HN.out h1 (by omega) (by unfold maxLen; omega) (by omega) hB _ rfl ?_; intro g' c' w' own' gr' at'' lt'; have AT := hid at''; clear at''))
  all_goals
    go_ret
    have at' := AT.out
    rw [hng] at gr'
    refine ⟨g', c', rfl, own', gr', ?_⟩
    rcases at' with h | h
    · simp [Value.ownBlock] at h; exact .inl h.symm
    · exact .inr (by omega)

set_option maxRecDepth 100000 in
set_option maxHeartbeats 8000000 in
/-- Insert ahead of the last one, there is room. -/
theorem insertR_room (B g n cap i vb : Nat) (xs ys : List Value) (w : World) (hown : w.ownsRow B 105 3 (.slice (some ⟨g, 0, none⟩) n cap) n xs) (hv : w.heap[vb]? = some (.cells ys.toArray 105 (0, 0))) (hy : ys.length = 3) (h1 : ∀ u ∈ ys, u.oneCell' = true) (h1x : ∀ u ∈ xs, u.oneCell' = true) (hn : n ≤ 1048576) (hi : i < n) (hroom : n + 1 ≤ cap) (hvb : vb ≠ g) :
    Calls Try.prog 153 #[.slice (some ⟨g, 0, none⟩) n cap, .int .i64 i, .slice (some ⟨vb, 0, none⟩) 1 1] w fun e w' => e = .returned (.slice (some ⟨g, 0, none⟩) (n + 1) cap) ∧ w'.ownsRow B 105 3 (.slice (some ⟨g, 0, none⟩) (n + 1) cap) (n + 1) (xs.take (i * 3) ++ ys ++ xs.drop (i * 3)) ∧ w.grownBy w' (some g) := by
  obtain ⟨i0, hi0, hz0, hz1, hz2⟩ := info_parts Try.info105
  have hcap := owns_capN hown
  have hx := hown.1
  obtain ⟨zs, hzl, oE⟩ := owns_extend hown hroom
  have hnews : ∀ j u, ys[j]? = some u → w.cell? ((⟨vb, 0, none⟩ : Addr).add j) = some u := fun j u hj => World.news_of_block hv j u (by simpa using hj)
  have hnn : ((i : Int) == (n : Int)) = false := by simp; omega
  have hlt : ¬ (cap : Int) < (n : Int) + 1 := by omega
  have hw1 : IntKind.i64.wrap ((n : Int) + 1) = (n : Int) + 1 := IntWalk.i64_in _ ⟨by omega, by omega⟩
  have hw2 : IntKind.i64.wrap ((i : Int) + 1) = (i : Int) + 1 := IntWalk.i64_in _ ⟨by omega, by omega⟩
  have hdl : (xs.drop (i * 3)).length = (n - i) * 3 := by rw [List.length_drop, hx, Nat.sub_mul]
  have oD : w.drew.ownsRow B 105 3 (.slice (some ⟨g, 0, none⟩) (n + 1) cap) (n + 1) (xs ++ zs) := oE
  have hcp1 : ∀ ty dc sc, (Builtin.copy_ #[42, 42] ty #[.slice (some ⟨g, (i + 1) * 3, none⟩) (n - i) dc, .slice (some ⟨g, i * 3, none⟩) (n + 1 - i) sc]).run Try.prog w.drew = .ok (goInt ((n - i : Nat) : Int)) (w.drew.setCells g ((i + 1) * 3) (xs.drop (i * 3))) := fun ty dc sc =>
    run_copyS w.drew _ _ ty 105 g ((i + 1) * 3) (n - i) dc ⟨g, i * 3, none⟩ (n + 1 - i) sc 3 (n - i) (xs.drop (i * 3)) i0 Try.underlying42 hi0 hz1 (by simp only [Nat.min_def]; split <;> omega) hdl
      (fun j v hj => by
        have hjl := (List.getElem?_eq_some_iff.1 hj).1
        rw [Addr.add_lit, oD.cellAt _ (by omega), List.getElem?_append_left (by omega)]
        rw [List.getElem?_drop] at hj
        simpa using hj)
      (fun j hj => by
        obtain ⟨u, hu⟩ := owns_some oD (j := (i + 1) * 3 + j) (by omega)
        rw [hu]; rfl)
      (fun j hj => oD.frozenAt _) (fun v hv => h1x v (List.mem_of_mem_drop hv))
  have ⟨own1, gr1⟩ := owns_setCells (xs.drop (i * 3)) ((i + 1) * 3) _ _ oD (by simp; omega)
  obtain ⟨W1, hW1⟩ : ∃ W1, W1 = w.drew.setCells g ((i + 1) * 3) (xs.drop (i * 3)) := ⟨_, rfl⟩
  rw [← hW1] at own1 gr1 hcp1
  have hcp2 : ∀ ty dc, (Builtin.copy_ #[42, 42] ty #[.slice (some ⟨g, i * 3, none⟩) (n + 1 - i) dc, .slice (some ⟨vb, 0, none⟩) 1 1]).run Try.prog W1 = .ok (goInt ((1 : Nat) : Int)) (W1.setCells g (i * 3) ys) := fun ty dc =>
    run_copyS W1 _ _ ty 105 g (i * 3) (n + 1 - i) dc ⟨vb, 0, none⟩ 1 1 3 1 ys i0 Try.underlying42 hi0 hz1 (by simp only [Nat.min_def]; split <;> omega) (by omega)
      (fun j v hj => by
        have := hnews j v hj
        rw [Addr.add_lit] at this ⊢
        rw [hW1, World.cell?_setCells_out g _ _ _ _ (fun h _ => absurd h hvb)]
        exact this)
      (fun j hj => by
        obtain ⟨u, hu⟩ := owns_some own1 (j := i * 3 + j) (by omega)
        rw [hu]; rfl)
      (fun j hj => own1.frozenAt _) h1
  have ⟨own2, gr2⟩ := owns_setCells ys (i * 3) _ _ own1 (by simp; omega)
  have hov : ∀ lb cb, (callFunc 161 #[.slice (some ⟨vb, 0, none⟩) 1 1, .slice (some ⟨g, (i + 1) * 3, none⟩) lb cb]).run Try.prog w = .ok (.value (.bool false)) w := fun lb cb => by
    have hsz : ∀ w, (Go.sizeOf 105).run Try.prog w = .ok 3 w := fun _ => by kernel_rfl
    rcases hown.2 with ⟨hvv, _⟩ | ⟨g', cp, cur, hvv, _, hh, _, _, h3, _⟩
    · simp at hvv
    simp only [Value.slice.injEq, Option.some.injEq, Addr.mk.injEq, and_true, true_and] at hvv
    obtain ⟨rfl, rfl⟩ := hvv
    rw [run_callFunc_extern Try.func161 (by kernel_rfl) (by kernel_rfl) (by kernel_rfl) (e := Extern.SlicesOverlaps.overlaps #[42, 42] #[4]) (by kernel_rfl),
      Lib.run_overlaps_apart w 42 4 105 Try.underlying42 3 hsz ⟨vb, 0, none⟩ ⟨g, (i + 1) * 3, none⟩ 1 1 lb cb hvb 105 105 ys.toArray.size cur.size (by simp [World.shape?, hv]) (by simp [World.shape?, hh]) (by rw [h3]; omega) (by simp [World.frozen?, hv]) (by simp [World.frozen?, hv])]
    rfl
  have gr1' : w.grownBy W1 (some g) := ⟨gr1.os, gr1.tape, gr1.output, gr1.size, gr1.block⟩
  have hF : (((xs ++ zs).take ((i + 1) * 3) ++ xs.drop (i * 3) ++ (xs ++ zs).drop ((i + 1) * 3 + (xs.drop (i * 3)).length)).take (i * 3) ++ ys ++ ((xs ++ zs).take ((i + 1) * 3) ++ xs.drop (i * 3) ++ (xs ++ zs).drop ((i + 1) * 3 + (xs.drop (i * 3)).length)).drop (i * 3 + ys.length)) = xs.take (i * 3) ++ ys ++ xs.drop (i * 3) := by
    exact insert_cells xs ys zs (i * 3) ((i + 1) * 3) 3 (by omega) hy hzl (by rw [hx]; omega)
  rw [hF] at own2
  have HO := hid own2
  clear hF own2 own1 hdl hx hzl oE oD gr1 hown hv hy hnews hW1
  have hic : i ≤ cap := by omega
  have hb1 : (0 : Int) ≤ (i : Int) + 1 := by omega
  have hin : i ≤ n := by omega
  have htn : ((i : Int) + 1).toNat = i + 1 := by omega
  have hb2 : ¬ (cap = i + 1) := by omega
  have hb3 : (i : Int) ≤ (n : Int) + 1 := by omega
  have hb4 : ¬ (cap = i) := by omega
  go_enter Try.func153, Try.ntmps153
  go_wp2_with (simp only [hov])
  go_region
  go_wp2
  go_ret
  exact ⟨rfl, HO.out, gr_trans gr1' gr2⟩

set_option maxRecDepth 100000 in
set_option maxHeartbeats 4000000 in
/-- Insert behind the last one. -/
theorem insertL_end (B g n cap vb : Nat) (xs ys : List Value) (w : World) (hown : w.ownsRow B 107 1 (.slice (some ⟨g, 0, none⟩) n cap) n xs) (hv : w.heap[vb]? = some (.cells ys.toArray 107 (0, 0))) (hy : ys.length = 1) (h1 : ∀ u ∈ ys, u.oneCell' = true) (hn : n ≤ 1048576) (hB : B ≤ w.heap.size) :
    Calls Try.prog 154 #[.slice (some ⟨g, 0, none⟩) n cap, .int .i64 n, .slice (some ⟨vb, 0, none⟩) 1 1] w fun e w' => ∃ g' c', e = .returned (.slice (some ⟨g', 0, none⟩) (n + 1) c') ∧ w'.ownsRow B 107 1 (.slice (some ⟨g', 0, none⟩) (n + 1) c') (n + 1) (xs ++ ys) ∧ w.grownBy w' (some g) ∧ (g' = g ∨ w.heap.size ≤ g') := by
  obtain ⟨i0, hi, hz0, hz1, hz2⟩ := info_parts Try.info107
  have hcap := owns_capN hown
  have hic : n ≤ cap := hcap.1
  have hnews : ∀ j u, ys[j]? = some u → w.cell? ((⟨vb, 0, none⟩ : Addr).add j) = some u := fun j u hj => World.news_of_block hv j u (by simpa using hj)
  have HY := hid (show ys.length = 1 * 1 by omega)
  have HN := hid hnews
  have hnn : ((n : Int) == (n : Int)) = true := by simp
  have hng : (Value.slice (some ⟨g, 0, none⟩) n cap).ownBlock = some g := rfl
  clear hnews hv hy
  go_enter Try.func154, Try.ntmps154
  go_wp2_with (at_builtin; go_must (refine wpList_append_lies w rfl (.tmp 23) (.tmp 24) 24 rfl B 107 i0 _ 1 24 Try.underlying24 hi hz0 hz1 hz2 rfl (by omega) (.slice (some ⟨g, 0, none⟩) n cap) n xs rfl hown ⟨vb, 0, none⟩ 1 1 ys rfl HY.out HN.out h1 (by omega) (by unfold maxLen; omega) (by omega) hB _ rfl ?_; intro g' c' w' own' gr' at'' lt'; have AT := hid at''; clear at''))
  all_goals
    go_ret
    have at' := AT.out
    rw [hng] at gr'
    refine ⟨g', c', rfl, own', gr', ?_⟩
    rcases at' with h | h
    · simp [Value.ownBlock] at h; exact .inl h.symm
    · exact .inr (by omega)

set_option maxRecDepth 100000 in
set_option maxHeartbeats 8000000 in
/-- Insert ahead of the last one, there is room. -/
theorem insertL_room (B g n cap i vb : Nat) (xs ys : List Value) (w : World) (hown : w.ownsRow B 107 1 (.slice (some ⟨g, 0, none⟩) n cap) n xs) (hv : w.heap[vb]? = some (.cells ys.toArray 107 (0, 0))) (hy : ys.length = 1) (h1 : ∀ u ∈ ys, u.oneCell' = true) (h1x : ∀ u ∈ xs, u.oneCell' = true) (hn : n ≤ 1048576) (hi : i < n) (hroom : n + 1 ≤ cap) (hvb : vb ≠ g) :
    Calls Try.prog 154 #[.slice (some ⟨g, 0, none⟩) n cap, .int .i64 i, .slice (some ⟨vb, 0, none⟩) 1 1] w fun e w' => e = .returned (.slice (some ⟨g, 0, none⟩) (n + 1) cap) ∧ w'.ownsRow B 107 1 (.slice (some ⟨g, 0, none⟩) (n + 1) cap) (n + 1) (xs.take (i * 1) ++ ys ++ xs.drop (i * 1)) ∧ w.grownBy w' (some g) := by
  obtain ⟨i0, hi0, hz0, hz1, hz2⟩ := info_parts Try.info107
  have hcap := owns_capN hown
  have hx := hown.1
  obtain ⟨zs, hzl, oE⟩ := owns_extend hown hroom
  have hnews : ∀ j u, ys[j]? = some u → w.cell? ((⟨vb, 0, none⟩ : Addr).add j) = some u := fun j u hj => World.news_of_block hv j u (by simpa using hj)
  have hnn : ((i : Int) == (n : Int)) = false := by simp; omega
  have hlt : ¬ (cap : Int) < (n : Int) + 1 := by omega
  have hw1 : IntKind.i64.wrap ((n : Int) + 1) = (n : Int) + 1 := IntWalk.i64_in _ ⟨by omega, by omega⟩
  have hw2 : IntKind.i64.wrap ((i : Int) + 1) = (i : Int) + 1 := IntWalk.i64_in _ ⟨by omega, by omega⟩
  have hdl : (xs.drop (i * 1)).length = (n - i) * 1 := by rw [List.length_drop, hx, Nat.sub_mul]
  have oD : w.drew.ownsRow B 107 1 (.slice (some ⟨g, 0, none⟩) (n + 1) cap) (n + 1) (xs ++ zs) := oE
  have hcp1 : ∀ ty dc sc, (Builtin.copy_ #[24, 24] ty #[.slice (some ⟨g, i + 1, none⟩) (n - i) dc, .slice (some ⟨g, i, none⟩) (n + 1 - i) sc]).run Try.prog w.drew = .ok (goInt ((n - i : Nat) : Int)) (w.drew.setCells g (i + 1) (xs.drop (i * 1))) := fun ty dc sc =>
    run_copyS w.drew _ _ ty 107 g (i + 1) (n - i) dc ⟨g, i, none⟩ (n + 1 - i) sc 1 (n - i) (xs.drop (i * 1)) i0 Try.underlying24 hi0 hz1 (by simp only [Nat.min_def]; split <;> omega) hdl
      (fun j v hj => by
        have hjl := (List.getElem?_eq_some_iff.1 hj).1
        rw [Addr.add_lit, oD.cellAt _ (by omega), List.getElem?_append_left (by omega)]
        rw [List.getElem?_drop] at hj
        simpa using hj)
      (fun j hj => by
        obtain ⟨u, hu⟩ := owns_some oD (j := i + 1 + j) (by omega)
        rw [hu]; rfl)
      (fun j hj => oD.frozenAt _) (fun v hv => h1x v (List.mem_of_mem_drop hv))
  have ⟨own1, gr1⟩ := owns_setCells (xs.drop (i * 1)) (i + 1) _ _ oD (by simp; omega)
  obtain ⟨W1, hW1⟩ : ∃ W1, W1 = w.drew.setCells g (i + 1) (xs.drop (i * 1)) := ⟨_, rfl⟩
  rw [← hW1] at own1 gr1 hcp1
  have hcp2 : ∀ ty dc, (Builtin.copy_ #[24, 24] ty #[.slice (some ⟨g, i, none⟩) (n + 1 - i) dc, .slice (some ⟨vb, 0, none⟩) 1 1]).run Try.prog W1 = .ok (goInt ((1 : Nat) : Int)) (W1.setCells g (i) ys) := fun ty dc =>
    run_copyS W1 _ _ ty 107 g (i) (n + 1 - i) dc ⟨vb, 0, none⟩ 1 1 1 1 ys i0 Try.underlying24 hi0 hz1 (by simp only [Nat.min_def]; split <;> omega) (by omega)
      (fun j v hj => by
        have := hnews j v hj
        rw [Addr.add_lit] at this ⊢
        rw [hW1, World.cell?_setCells_out g _ _ _ _ (fun h _ => absurd h hvb)]
        exact this)
      (fun j hj => by
        obtain ⟨u, hu⟩ := owns_some own1 (j := i + j) (by omega)
        rw [hu]; rfl)
      (fun j hj => own1.frozenAt _) h1
  have ⟨own2, gr2⟩ := owns_setCells ys (i) _ _ own1 (by simp; omega)
  have hov : ∀ lb cb, (callFunc 163 #[.slice (some ⟨vb, 0, none⟩) 1 1, .slice (some ⟨g, i + 1, none⟩) lb cb]).run Try.prog w = .ok (.value (.bool false)) w := fun lb cb => by
    have hsz : ∀ w, (Go.sizeOf 107).run Try.prog w = .ok 1 w := fun _ => by kernel_rfl
    rcases hown.2 with ⟨hvv, _⟩ | ⟨g', cp, cur, hvv, _, hh, _, _, h3, _⟩
    · simp at hvv
    simp only [Value.slice.injEq, Option.some.injEq, Addr.mk.injEq, and_true, true_and] at hvv
    obtain ⟨rfl, rfl⟩ := hvv
    rw [run_callFunc_extern Try.func163 (by kernel_rfl) (by kernel_rfl) (by kernel_rfl) (e := Extern.SlicesOverlaps.overlaps #[24, 24] #[4]) (by kernel_rfl),
      Lib.run_overlaps_apart w 24 4 107 Try.underlying24 1 hsz ⟨vb, 0, none⟩ ⟨g, i + 1, none⟩ 1 1 lb cb hvb 107 107 ys.toArray.size cur.size (by simp [World.shape?, hv]) (by simp [World.shape?, hh]) (by rw [h3]; omega) (by simp [World.frozen?, hv]) (by simp [World.frozen?, hv])]
    rfl
  have gr1' : w.grownBy W1 (some g) := ⟨gr1.os, gr1.tape, gr1.output, gr1.size, gr1.block⟩
  have hF : (((xs ++ zs).take (i + 1) ++ xs.drop (i * 1) ++ (xs ++ zs).drop (i + 1 + (xs.drop (i * 1)).length)).take (i) ++ ys ++ ((xs ++ zs).take (i + 1) ++ xs.drop (i * 1) ++ (xs ++ zs).drop (i + 1 + (xs.drop (i * 1)).length)).drop (i + ys.length)) = xs.take (i * 1) ++ ys ++ xs.drop (i * 1) := by
    simp only [Nat.mul_one]
    exact insert_cells xs ys zs (i) (i + 1) 1 (by omega) hy hzl (by rw [hx]; omega)
  rw [hF] at own2
  have HO := hid own2
  clear hF own2 own1 hdl hx hzl oE oD gr1 hown hv hy hnews hW1
  have hic : i ≤ cap := by omega
  have hb1 : (0 : Int) ≤ (i : Int) + 1 := by omega
  have hin : i ≤ n := by omega
  have htn : ((i : Int) + 1).toNat = i + 1 := by omega
  have hb2 : ¬ (cap = i + 1) := by omega
  have hb3 : (i : Int) ≤ (n : Int) + 1 := by omega
  have hb4 : ¬ (cap = i) := by omega
  go_enter Try.func154, Try.ntmps154
  go_wp2_with (simp only [hov])
  go_region
  go_wp2
  go_ret
  exact ⟨rfl, HO.out, gr_trans gr1' gr2⟩

end Go.Proofs.Ythfanfnbjldddaa


/- The library's Insert at rows and at leaves: one element, where a new array is made; and all ways as one. -/
namespace Go.Proofs.Ythfanfnbjldddaa
open Go.RowKit

theorem heap_newI {w : World} {o : Obj} {n : Nat} (h : n = w.heap.size) : (w.alloc o).heap[n]? = some o := by
  subst h; exact heap_alloc_new w o
theorem insert_cells2 (xs ys zs : List Value) (a b s : Nat) (hb : b = a + s) (hy : ys.length = s) (hz : a + zs.length = xs.length + s) (hl : b ≤ xs.length) :
    (((xs.take a ++ zs).take a ++ ys ++ (xs.take a ++ zs).drop (a + ys.length)).take b ++ xs.drop a ++ ((xs.take a ++ zs).take a ++ ys ++ (xs.take a ++ zs).drop (a + ys.length)).drop (b + (xs.drop a).length)) = xs.take a ++ ys ++ xs.drop a := by
  have hT : (xs.take a).length = a := by rw [List.length_take]; omega
  have h1 : (xs.take a ++ zs).take a = xs.take a := by rw [List.take_append_of_le_length (by omega), List.take_of_length_le (by omega)]
  have hD : ∀ us : List Value, us.length = xs.length + s → us.drop (b + (xs.drop a).length) = [] := fun us h => List.drop_of_length_le (by rw [List.length_drop]; omega)
  rw [h1, hD _ (by simp only [List.length_append, List.length_drop, hT]; omega), List.append_nil, List.take_append_of_le_length (by rw [List.length_append]; omega), List.take_of_length_le (by rw [List.length_append]; omega)]

theorem grow_oneR (B g n cap i : Nat) (xs : List Value) (w : World) (ty : TypeId) (hown : w.ownsRow B 105 3 (.slice (some ⟨g, 0, none⟩) n cap) n xs) (hn : n ≤ 1048576) (hi : i < n) (hroom : cap < n + 1) (hB : B ≤ w.heap.size) :
    ∃ C W0 zs, (Builtin.append_ #[42, 3] ty #[.slice (some ⟨g, 0, none⟩) i cap, .int .i64 ((n : Int) + 1 - i)]).run Try.prog w = .ok (.slice (some ⟨w.heap.size, 0, none⟩) (n + 1) C) W0 ∧ n + 1 ≤ C ∧ List.length zs = (n + 1 - i) * 3 ∧ W0.ownsRow B 105 3 (.slice (some ⟨w.heap.size, 0, none⟩) (n + 1) C) (n + 1) (xs.take (i * 3) ++ zs) ∧ Below w.heap.size w W0 := by
  obtain ⟨i0, hi0, hz0, hz1, hz2⟩ := info_parts Try.info105
  have hcap := owns_capN hown
  have hx := hown.1
  have hik : i + (n + 1 - i) = n + 1 := by omega
  have hz' : ((n : Int) + 1 - i) = ((n + 1 - i : Nat) : Int) := by omega
  have hlt : (xs.take (i * 3)).length = i * 3 := by rw [List.length_take]; omega
  have hold : (Builtin.firstCells i0.size i (.slice (some ⟨g, 0, none⟩) i cap)).run Try.prog w.drew = .ok (xs.take (i * 3)).toArray w.drew := by
    have oD : w.drew.ownsRow B 105 3 (.slice (some ⟨g, 0, none⟩) n cap) n xs := hown
    have hl := run_loadCells_list (P := Try.prog) w.drew ⟨g, 0, none⟩ (xs.take (i * 3)) (fun j v hj => by
      have hjl := (List.getElem?_eq_some_iff.1 hj).1
      rw [Addr.add_lit, Nat.zero_add, oD.cellAt _ (by omega)]
      rw [List.getElem?_take] at hj
      split at hj
      · exact hj
      · simp at hj)
    rw [hlt] at hl
    simp only [Builtin.firstCells, hz1]
    exact hl
  have hrun := Lib.run_append_grow_zeros (P := Try.prog) w 42 3 ty 105 i0 (.agg #[.int .i64 0, .int .i64 0, .bool false]) .i64 .i64 Try.underlying42 Try.underlying3 hi0 hz0 (some ⟨g, 0, none⟩) i cap (xs.take (i * 3)) hold (n + 1 - i) (by omega) (by omega) (by omega) (by omega) (by rw [hz2]; omega) (by rw [hz2, hik]; exact growslice_fits (by omega) (by omega))
  rw [hik] at hrun
  rw [hz']
  have hge := grownCap_ge w (n + 1) cap 105
  have hle := grownCap_le_maxLen w (n + 1) cap 105 (by unfold maxLen; omega)
  generalize grownCap w (n + 1) cap 105 = C at hrun hge hle
  have hzc : ∀ q, (Builtin.zeroCells (Value.cells (.agg #[.int .i64 0, .int .i64 0, .bool false])) q).size = q * 3 := fun q => by simp [Builtin.zeroCells, Value.cells]
  have hzt : (Builtin.zeroCells (Value.cells (.agg #[.int .i64 0, .int .i64 0, .bool false])) (n + 1 - i)).toList.length = (n + 1 - i) * 3 := by rw [Array.length_toList, hzc]
  refine ⟨C, _, (Builtin.zeroCells (Value.cells (.agg #[.int .i64 0, .int .i64 0, .bool false])) (n + 1 - i)).toList, hrun, hge, hzt, ⟨?_, .inr ⟨w.heap.size, C, _, rfl, hB, heap_newI (by simp), hge, hle, ?_, ?_⟩⟩, ((Below.refl _ _).drew).alloc (by simp) _⟩
  · rw [List.length_append, hlt, hzt]; omega
  · rw [Array.size_append, Array.size_append, hzc, hzc, List.size_toArray, hlt]; omega
  · have e0 : ((xs.take (i * 3)).toArray ++ Builtin.zeroCells (Value.cells (.agg #[.int .i64 0, .int .i64 0, .bool false])) (n + 1 - i) ++ Builtin.zeroCells (Value.cells (.agg #[.int .i64 0, .int .i64 0, .bool false])) (C - (n + 1))).toList = (xs.take (i * 3) ++ (Builtin.zeroCells (Value.cells (.agg #[.int .i64 0, .int .i64 0, .bool false])) (n + 1 - i)).toList) ++ (Builtin.zeroCells (Value.cells (.agg #[.int .i64 0, .int .i64 0, .bool false])) (C - (n + 1))).toList := by simp only [Array.toList_append]
    rw [e0, List.take_append_of_le_length (by rw [List.length_append, hlt, hzt]; omega), List.take_of_length_le (by rw [List.length_append, hlt, hzt]; omega)]

set_option maxRecDepth 100000 in
set_option maxHeartbeats 8000000 in
/-- Insert ahead of the last one, there is no room. -/
theorem insertR_grow (B g n cap i vb : Nat) (xs ys : List Value) (w : World) (hown : w.ownsRow B 105 3 (.slice (some ⟨g, 0, none⟩) n cap) n xs) (hv : w.heap[vb]? = some (.cells ys.toArray 105 (0, 0))) (hy : ys.length = 3) (h1 : ∀ u ∈ ys, u.oneCell' = true) (h1x : ∀ u ∈ xs, u.oneCell' = true) (hn : n ≤ 1048576) (hi : i < n) (hroom : cap < n + 1) (hB : B ≤ w.heap.size) :
    Calls Try.prog 153 #[.slice (some ⟨g, 0, none⟩) n cap, .int .i64 i, .slice (some ⟨vb, 0, none⟩) 1 1] w fun e w' => ∃ C, e = .returned (.slice (some ⟨w.heap.size, 0, none⟩) (n + 1) C) ∧ w'.ownsRow B 105 3 (.slice (some ⟨w.heap.size, 0, none⟩) (n + 1) C) (n + 1) (xs.take (i * 3) ++ ys ++ xs.drop (i * 3)) ∧ Below w.heap.size w w' := by
  obtain ⟨i0, hi0, hz0, hz1, hz2⟩ := info_parts Try.info105
  obtain ⟨C, W0, zs, hrun, hC, hzl, own0, b0⟩ := grow_oneR B g n cap i xs w 42 hown hn hi hroom hB
  have hcap := owns_capN hown
  have hx := hown.1
  have hvl : vb < w.heap.size := (Array.getElem?_eq_some_iff.1 hv).1
  have hgl : g < w.heap.size := by
    rcases hown.2 with ⟨hvv, _⟩ | ⟨g', cp, cur, hvv, _, hh, _⟩
    · simp at hvv
    simp only [Value.slice.injEq, Option.some.injEq, Addr.mk.injEq, and_true, true_and] at hvv
    obtain ⟨rfl, rfl⟩ := hvv
    exact (Array.getElem?_eq_some_iff.1 hh).1
  obtain ⟨G, hG⟩ : ∃ G, G = w.heap.size := ⟨_, rfl⟩
  rw [← hG] at hrun own0 b0 hvl hgl ⊢
  have hnews : ∀ j u, ys[j]? = some u → w.cell? ((⟨vb, 0, none⟩ : Addr).add j) = some u := fun j u hj => World.news_of_block hv j u (by simpa using hj)
  have hnn : ((i : Int) == (n : Int)) = false := by simp; omega
  have hlt : (cap : Int) < (n : Int) + 1 := by omega
  have hw1 : IntKind.i64.wrap ((n : Int) + 1) = (n : Int) + 1 := IntWalk.i64_in _ ⟨by omega, by omega⟩
  have hw2 : IntKind.i64.wrap ((i : Int) + 1) = (i : Int) + 1 := IntWalk.i64_in _ ⟨by omega, by omega⟩
  have hw3 : IntKind.i64.wrap ((n : Int) + 1 - i) = (n : Int) + 1 - i := IntWalk.i64_in _ ⟨by omega, by omega⟩
  have hdl : (xs.drop (i * 3)).length = (n - i) * 3 := by rw [List.length_drop, hx, Nat.sub_mul]
  have hcp1 : ∀ ty dc, (Builtin.copy_ #[42, 42] ty #[.slice (some ⟨G, i * 3, none⟩) (n + 1 - i) dc, .slice (some ⟨vb, 0, none⟩) 1 1]).run Try.prog W0 = .ok (goInt ((1 : Nat) : Int)) (W0.setCells G (i * 3) ys) := fun ty dc =>
    run_copyS W0 _ _ ty 105 G (i * 3) (n + 1 - i) dc ⟨vb, 0, none⟩ 1 1 3 1 ys i0 Try.underlying42 hi0 hz1 (by simp only [Nat.min_def]; split <;> omega) (by omega)
      (fun j v hj => by
        have := hnews j v hj
        rw [Addr.add_lit] at this ⊢
        exact (b0.cell (p := ⟨vb, 0 + j, none⟩) hvl).trans this)
      (fun j hj => by
        obtain ⟨u, hu⟩ := owns_some own0 (j := i * 3 + j) (by omega)
        rw [hu]; rfl)
      (fun j hj => own0.frozenAt _) h1
  have hl0 := own0.1
  have hs0 : G ≤ W0.heap.size := by have := b0.size; omega
  have ⟨own1, gr1⟩ := owns_setCells ys (i * 3) _ _ own0 (by omega)
  obtain ⟨W1, hW1⟩ : ∃ W1, W1 = W0.setCells G (i * 3) ys := ⟨_, rfl⟩
  rw [← hW1] at own1 gr1 hcp1
  have b1 : Below G w W1 := b0.grown gr1 hs0 (fun k hk => by cases hk; exact Nat.le_refl _)
  have oD : W1.drew.ownsRow B 105 3 (.slice (some ⟨G, 0, none⟩) (n + 1) C) (n + 1) _ := own1
  have hcp2 : ∀ ty dc sc, (Builtin.copy_ #[42, 42] ty #[.slice (some ⟨G, (i + 1) * 3, none⟩) (n - i) dc, .slice (some ⟨g, i * 3, none⟩) (n - i) sc]).run Try.prog W1.drew = .ok (goInt ((n - i : Nat) : Int)) (W1.drew.setCells G ((i + 1) * 3) (xs.drop (i * 3))) := fun ty dc sc =>
    run_copyS W1.drew _ _ ty 105 G ((i + 1) * 3) (n - i) dc ⟨g, i * 3, none⟩ (n - i) sc 3 (n - i) (xs.drop (i * 3)) i0 Try.underlying42 hi0 hz1 (by simp only [Nat.min_def]; split <;> omega) hdl
      (fun j v hj => by
        have hjl := (List.getElem?_eq_some_iff.1 hj).1
        rw [List.getElem?_drop] at hj
        rw [Addr.add_lit]
        have hc : w.cell? ⟨g, i * 3 + j, none⟩ = some v := by rw [hown.cellAt _ (by omega)]; simpa using hj
        exact (b1.drew.cell (p := ⟨g, _, none⟩) hgl).trans hc)
      (fun j hj => by
        obtain ⟨u, hu⟩ := owns_some oD (j := (i + 1) * 3 + j) (by omega)
        rw [hu]; rfl)
      (fun j hj => oD.frozenAt _) (fun v hv => h1x v (List.mem_of_mem_drop hv))
  have hl1 := own1.1
  have hs1 : G ≤ W1.drew.heap.size := by have := b1.drew.size; omega
  have ⟨own2, gr2⟩ := owns_setCells (xs.drop (i * 3)) ((i + 1) * 3) _ _ oD (by rw [hl1]; omega)
  have b2 : Below G w (W1.drew.setCells G ((i + 1) * 3) (xs.drop (i * 3))) := b1.drew.grown gr2 hs1 (fun k hk => by cases hk; exact Nat.le_refl _)
  have hF := insert_cells2 xs ys zs (i * 3) ((i + 1) * 3) 3 (by omega) hy (by omega) (by omega)
  rw [hF] at own2
  have HO := hid own2
  have HB := hid b2
  clear hF own2 own1 hdl hx hzl oD gr1 hown hv hy hnews hW1 own0 b0 b1 b2 hl0 hl1 gr2 h1 h1x hs0 hs1
  have hic : i ≤ cap := by omega
  have hiC : i ≤ C := by omega
  have hb1 : (0 : Int) ≤ (i : Int) + 1 := by omega
  have hin : i ≤ n := by omega
  have htn : ((i : Int) + 1).toNat = i + 1 := by omega
  have hb3 : (i : Int) ≤ (n : Int) + 1 := by omega
  have hb4 : ¬ (cap = i) := by omega
  have hb5 : ¬ (C = i) := by omega
  have hb6 : ¬ (C = i + 1) := by omega
  clear hG
  go_enter Try.func153, Try.ntmps153
  go_wp2_with (at_builtin; go_must (refine Lib.wpList_append_run w rfl (.tmp 34) (.tmp 39) 42 3 rfl _ _ rfl rfl _ _ hrun ?_))
  go_region
  go_wp2
  go_ret
  exact ⟨C, rfl, HO.out, HB.out⟩

/-- Insert of one element. -/
theorem insertR_any (B g n cap i vb : Nat) (xs ys : List Value) (w : World) (hown : w.ownsRow B 105 3 (.slice (some ⟨g, 0, none⟩) n cap) n xs) (hv : w.heap[vb]? = some (.cells ys.toArray 105 (0, 0))) (hy : ys.length = 3) (h1 : ∀ u ∈ ys, u.oneCell' = true) (h1x : ∀ u ∈ xs, u.oneCell' = true) (hn : n ≤ 1048576) (hi : i ≤ n) (hB : B ≤ w.heap.size) (hvb : vb ≠ g) :
    Calls Try.prog 153 #[.slice (some ⟨g, 0, none⟩) n cap, .int .i64 i, .slice (some ⟨vb, 0, none⟩) 1 1] w fun e w' => ∃ g' c', e = .returned (.slice (some ⟨g', 0, none⟩) (n + 1) c') ∧ w'.ownsRow B 105 3 (.slice (some ⟨g', 0, none⟩) (n + 1) c') (n + 1) (xs.take (i * 3) ++ ys ++ xs.drop (i * 3)) ∧ w.grownBy w' (some g) ∧ (g' = g ∨ w.heap.size ≤ g') := by
  have hx := hown.1
  rcases Nat.lt_or_ge i n with h | h
  · rcases Nat.lt_or_ge cap (n + 1) with hc | hc
    · refine (insertR_grow B g n cap i vb xs ys w hown hv hy h1 h1x hn h hc hB).mono ?_
      rintro e w' ⟨C, rfl, own, b⟩
      exact ⟨_, C, rfl, own, ⟨b.os, b.tape, b.output, b.size, fun k hk _ => b.block k hk⟩, .inr (Nat.le_refl _)⟩
    · refine (insertR_room B g n cap i vb xs ys w hown hv hy h1 h1x hn h hc hvb).mono ?_
      rintro e w' ⟨rfl, own, gr⟩
      exact ⟨_, _, rfl, own, gr, .inl rfl⟩
  · have e0 : i = n := by omega
    subst e0
    refine (insertR_end B g i cap vb xs ys w hown hv hy h1 hn hB).mono ?_
    rintro e w' ⟨g', c', rfl, own, gr, h⟩
    rw [List.take_of_length_le (by omega), List.drop_of_length_le (by omega), List.append_nil]
    exact ⟨g', c', rfl, own, gr, h⟩

theorem grow_oneL (B g n cap i : Nat) (xs : List Value) (w : World) (ty : TypeId) (hown : w.ownsRow B 107 1 (.slice (some ⟨g, 0, none⟩) n cap) n xs) (hn : n ≤ 1048576) (hi : i < n) (hroom : cap < n + 1) (hB : B ≤ w.heap.size) :
    ∃ C W0 zs, (Builtin.append_ #[24, 3] ty #[.slice (some ⟨g, 0, none⟩) i cap, .int .i64 ((n : Int) + 1 - i)]).run Try.prog w = .ok (.slice (some ⟨w.heap.size, 0, none⟩) (n + 1) C) W0 ∧ n + 1 ≤ C ∧ List.length zs = (n + 1 - i) * 1 ∧ W0.ownsRow B 107 1 (.slice (some ⟨w.heap.size, 0, none⟩) (n + 1) C) (n + 1) (xs.take (i * 1) ++ zs) ∧ Below w.heap.size w W0 := by
  obtain ⟨i0, hi0, hz0, hz1, hz2⟩ := info_parts Try.info107
  have hcap := owns_capN hown
  have hx := hown.1
  have hik : i + (n + 1 - i) = n + 1 := by omega
  have hz' : ((n : Int) + 1 - i) = ((n + 1 - i : Nat) : Int) := by omega
  have hlt : (xs.take (i * 1)).length = i * 1 := by rw [List.length_take]; omega
  have hold : (Builtin.firstCells i0.size i (.slice (some ⟨g, 0, none⟩) i cap)).run Try.prog w.drew = .ok (xs.take (i * 1)).toArray w.drew := by
    have oD : w.drew.ownsRow B 107 1 (.slice (some ⟨g, 0, none⟩) n cap) n xs := hown
    have hl := run_loadCells_list (P := Try.prog) w.drew ⟨g, 0, none⟩ (xs.take (i * 1)) (fun j v hj => by
      have hjl := (List.getElem?_eq_some_iff.1 hj).1
      rw [Addr.add_lit, Nat.zero_add, oD.cellAt _ (by omega)]
      rw [List.getElem?_take] at hj
      split at hj
      · exact hj
      · simp at hj)
    rw [hlt] at hl
    simp only [Builtin.firstCells, hz1]
    exact hl
  have hrun := Lib.run_append_grow_zeros (P := Try.prog) w 24 3 ty 107 i0 (.agg #[.slice none 0 0]) .i64 .i64 Try.underlying24 Try.underlying3 hi0 hz0 (some ⟨g, 0, none⟩) i cap (xs.take (i * 1)) hold (n + 1 - i) (by omega) (by omega) (by omega) (by omega) (by rw [hz2]; omega) (by rw [hz2, hik]; exact growslice_fits (by omega) (by omega))
  rw [hik] at hrun
  rw [hz']
  have hge := grownCap_ge w (n + 1) cap 107
  have hle := grownCap_le_maxLen w (n + 1) cap 107 (by unfold maxLen; omega)
  generalize grownCap w (n + 1) cap 107 = C at hrun hge hle
  have hzc : ∀ q, (Builtin.zeroCells (Value.cells (.agg #[.slice none 0 0])) q).size = q * 1 := fun q => by simp [Builtin.zeroCells, Value.cells]
  have hzt : (Builtin.zeroCells (Value.cells (.agg #[.slice none 0 0])) (n + 1 - i)).toList.length = (n + 1 - i) * 1 := by rw [Array.length_toList, hzc]
  refine ⟨C, _, (Builtin.zeroCells (Value.cells (.agg #[.slice none 0 0])) (n + 1 - i)).toList, hrun, hge, hzt, ⟨?_, .inr ⟨w.heap.size, C, _, rfl, hB, heap_newI (by simp), hge, hle, ?_, ?_⟩⟩, ((Below.refl _ _).drew).alloc (by simp) _⟩
  · rw [List.length_append, hlt, hzt]; omega
  · rw [Array.size_append, Array.size_append, hzc, hzc, List.size_toArray, hlt]; omega
  · have e0 : ((xs.take (i * 1)).toArray ++ Builtin.zeroCells (Value.cells (.agg #[.slice none 0 0])) (n + 1 - i) ++ Builtin.zeroCells (Value.cells (.agg #[.slice none 0 0])) (C - (n + 1))).toList = (xs.take (i * 1) ++ (Builtin.zeroCells (Value.cells (.agg #[.slice none 0 0])) (n + 1 - i)).toList) ++ (Builtin.zeroCells (Value.cells (.agg #[.slice none 0 0])) (C - (n + 1))).toList := by simp only [Array.toList_append]
    rw [e0, List.take_append_of_le_length (by rw [List.length_append, hlt, hzt]; omega), List.take_of_length_le (by rw [List.length_append, hlt, hzt]; omega)]

set_option maxRecDepth 100000 in
set_option maxHeartbeats 8000000 in
/-- Insert ahead of the last one, there is no room. -/
theorem insertL_grow (B g n cap i vb : Nat) (xs ys : List Value) (w : World) (hown : w.ownsRow B 107 1 (.slice (some ⟨g, 0, none⟩) n cap) n xs) (hv : w.heap[vb]? = some (.cells ys.toArray 107 (0, 0))) (hy : ys.length = 1) (h1 : ∀ u ∈ ys, u.oneCell' = true) (h1x : ∀ u ∈ xs, u.oneCell' = true) (hn : n ≤ 1048576) (hi : i < n) (hroom : cap < n + 1) (hB : B ≤ w.heap.size) :
    Calls Try.prog 154 #[.slice (some ⟨g, 0, none⟩) n cap, .int .i64 i, .slice (some ⟨vb, 0, none⟩) 1 1] w fun e w' => ∃ C, e = .returned (.slice (some ⟨w.heap.size, 0, none⟩) (n + 1) C) ∧ w'.ownsRow B 107 1 (.slice (some ⟨w.heap.size, 0, none⟩) (n + 1) C) (n + 1) (xs.take (i * 1) ++ ys ++ xs.drop (i * 1)) ∧ Below w.heap.size w w' := by
  obtain ⟨i0, hi0, hz0, hz1, hz2⟩ := info_parts Try.info107
  obtain ⟨C, W0, zs, hrun, hC, hzl, own0, b0⟩ := grow_oneL B g n cap i xs w 24 hown hn hi hroom hB
  have hcap := owns_capN hown
  have hx := hown.1
  have hvl : vb < w.heap.size := (Array.getElem?_eq_some_iff.1 hv).1
  have hgl : g < w.heap.size := by
    rcases hown.2 with ⟨hvv, _⟩ | ⟨g', cp, cur, hvv, _, hh, _⟩
    · simp at hvv
    simp only [Value.slice.injEq, Option.some.injEq, Addr.mk.injEq, and_true, true_and] at hvv
    obtain ⟨rfl, rfl⟩ := hvv
    exact (Array.getElem?_eq_some_iff.1 hh).1
  obtain ⟨G, hG⟩ : ∃ G, G = w.heap.size := ⟨_, rfl⟩
  rw [← hG] at hrun own0 b0 hvl hgl ⊢
  have hnews : ∀ j u, ys[j]? = some u → w.cell? ((⟨vb, 0, none⟩ : Addr).add j) = some u := fun j u hj => World.news_of_block hv j u (by simpa using hj)
  have hnn : ((i : Int) == (n : Int)) = false := by simp; omega
  have hlt : (cap : Int) < (n : Int) + 1 := by omega
  have hw1 : IntKind.i64.wrap ((n : Int) + 1) = (n : Int) + 1 := IntWalk.i64_in _ ⟨by omega, by omega⟩
  have hw2 : IntKind.i64.wrap ((i : Int) + 1) = (i : Int) + 1 := IntWalk.i64_in _ ⟨by omega, by omega⟩
  have hw3 : IntKind.i64.wrap ((n : Int) + 1 - i) = (n : Int) + 1 - i := IntWalk.i64_in _ ⟨by omega, by omega⟩
  have hdl : (xs.drop (i * 1)).length = (n - i) * 1 := by rw [List.length_drop, hx, Nat.sub_mul]
  have hcp1 : ∀ ty dc, (Builtin.copy_ #[24, 24] ty #[.slice (some ⟨G, i, none⟩) (n + 1 - i) dc, .slice (some ⟨vb, 0, none⟩) 1 1]).run Try.prog W0 = .ok (goInt ((1 : Nat) : Int)) (W0.setCells G (i) ys) := fun ty dc =>
    run_copyS W0 _ _ ty 107 G (i) (n + 1 - i) dc ⟨vb, 0, none⟩ 1 1 1 1 ys i0 Try.underlying24 hi0 hz1 (by simp only [Nat.min_def]; split <;> omega) (by omega)
      (fun j v hj => by
        have := hnews j v hj
        rw [Addr.add_lit] at this ⊢
        exact (b0.cell (p := ⟨vb, 0 + j, none⟩) hvl).trans this)
      (fun j hj => by
        obtain ⟨u, hu⟩ := owns_some own0 (j := i + j) (by omega)
        rw [hu]; rfl)
      (fun j hj => own0.frozenAt _) h1
  have hl0 := own0.1
  have hs0 : G ≤ W0.heap.size := by have := b0.size; omega
  have ⟨own1, gr1⟩ := owns_setCells ys (i) _ _ own0 (by omega)
  obtain ⟨W1, hW1⟩ : ∃ W1, W1 = W0.setCells G (i) ys := ⟨_, rfl⟩
  rw [← hW1] at own1 gr1 hcp1
  have b1 : Below G w W1 := b0.grown gr1 hs0 (fun k hk => by cases hk; exact Nat.le_refl _)
  have oD : W1.drew.ownsRow B 107 1 (.slice (some ⟨G, 0, none⟩) (n + 1) C) (n + 1) _ := own1
  have hcp2 : ∀ ty dc sc, (Builtin.copy_ #[24, 24] ty #[.slice (some ⟨G, i + 1, none⟩) (n - i) dc, .slice (some ⟨g, i, none⟩) (n - i) sc]).run Try.prog W1.drew = .ok (goInt ((n - i : Nat) : Int)) (W1.drew.setCells G (i + 1) (xs.drop (i * 1))) := fun ty dc sc =>
    run_copyS W1.drew _ _ ty 107 G (i + 1) (n - i) dc ⟨g, i, none⟩ (n - i) sc 1 (n - i) (xs.drop (i * 1)) i0 Try.underlying24 hi0 hz1 (by simp only [Nat.min_def]; split <;> omega) hdl
      (fun j v hj => by
        have hjl := (List.getElem?_eq_some_iff.1 hj).1
        rw [List.getElem?_drop] at hj
        rw [Addr.add_lit]
        have hc : w.cell? ⟨g, i + j, none⟩ = some v := by rw [hown.cellAt _ (by omega)]; simpa using hj
        exact (b1.drew.cell (p := ⟨g, _, none⟩) hgl).trans hc)
      (fun j hj => by
        obtain ⟨u, hu⟩ := owns_some oD (j := i + 1 + j) (by omega)
        rw [hu]; rfl)
      (fun j hj => oD.frozenAt _) (fun v hv => h1x v (List.mem_of_mem_drop hv))
  have hl1 := own1.1
  have hs1 : G ≤ W1.drew.heap.size := by have := b1.drew.size; omega
  have ⟨own2, gr2⟩ := owns_setCells (xs.drop (i * 1)) (i + 1) _ _ oD (by rw [hl1]; omega)
  have b2 : Below G w (W1.drew.setCells G (i + 1) (xs.drop (i * 1))) := b1.drew.grown gr2 hs1 (fun k hk => by cases hk; exact Nat.le_refl _)
  have hF := insert_cells2 xs ys zs (i) (i + 1) 1 (by omega) hy (by omega) (by omega)
  simp only [Nat.mul_one] at own2
  rw [hF] at own2
  have HO := hid own2
  have HB := hid b2
  clear hF own2 own1 hdl hx hzl oD gr1 hown hv hy hnews hW1 own0 b0 b1 b2 hl0 hl1 gr2 h1 h1x hs0 hs1
  have hic : i ≤ cap := by omega
  have hiC : i ≤ C := by omega
  have hb1 : (0 : Int) ≤ (i : Int) + 1 := by omega
  have hin : i ≤ n := by omega
  have htn : ((i : Int) + 1).toNat = i + 1 := by omega
  have hb3 : (i : Int) ≤ (n : Int) + 1 := by omega
  have hb4 : ¬ (cap = i) := by omega
  have hb5 : ¬ (C = i) := by omega
  have hb6 : ¬ (C = i + 1) := by omega
  clear hG
  go_enter Try.func154, Try.ntmps154
  go_wp2_with (at_builtin; go_must (refine Lib.wpList_append_run w rfl (.tmp 34) (.tmp 39) 24 3 rfl _ _ rfl rfl _ _ hrun ?_))
  go_region
  go_wp2
  go_ret
  exact ⟨C, rfl, by have := HO.out; simp only [Nat.mul_one]; exact this, by have := HB.out; simp only [Nat.mul_one] at this; exact this⟩

/-- Insert of one element. -/
theorem insertL_any (B g n cap i vb : Nat) (xs ys : List Value) (w : World) (hown : w.ownsRow B 107 1 (.slice (some ⟨g, 0, none⟩) n cap) n xs) (hv : w.heap[vb]? = some (.cells ys.toArray 107 (0, 0))) (hy : ys.length = 1) (h1 : ∀ u ∈ ys, u.oneCell' = true) (h1x : ∀ u ∈ xs, u.oneCell' = true) (hn : n ≤ 1048576) (hi : i ≤ n) (hB : B ≤ w.heap.size) (hvb : vb ≠ g) :
    Calls Try.prog 154 #[.slice (some ⟨g, 0, none⟩) n cap, .int .i64 i, .slice (some ⟨vb, 0, none⟩) 1 1] w fun e w' => ∃ g' c', e = .returned (.slice (some ⟨g', 0, none⟩) (n + 1) c') ∧ w'.ownsRow B 107 1 (.slice (some ⟨g', 0, none⟩) (n + 1) c') (n + 1) (xs.take (i * 1) ++ ys ++ xs.drop (i * 1)) ∧ w.grownBy w' (some g) ∧ (g' = g ∨ w.heap.size ≤ g') := by
  have hx := hown.1
  rcases Nat.lt_or_ge i n with h | h
  · rcases Nat.lt_or_ge cap (n + 1) with hc | hc
    · refine (insertL_grow B g n cap i vb xs ys w hown hv hy h1 h1x hn h hc hB).mono ?_
      rintro e w' ⟨C, rfl, own, b⟩
      exact ⟨_, C, rfl, own, ⟨b.os, b.tape, b.output, b.size, fun k hk _ => b.block k hk⟩, .inr (Nat.le_refl _)⟩
    · refine (insertL_room B g n cap i vb xs ys w hown hv hy h1 h1x hn h hc hvb).mono ?_
      rintro e w' ⟨rfl, own, gr⟩
      exact ⟨_, _, rfl, own, gr, .inl rfl⟩
  · have e0 : i = n := by omega
    subst e0
    refine (insertL_end B g i cap vb xs ys w hown hv hy h1 hn hB).mono ?_
    rintro e w' ⟨g', c', rfl, own, gr, h⟩
    rw [List.take_of_length_le (by omega), List.drop_of_length_le (by omega), List.append_nil]
    exact ⟨g', c', rfl, own, gr, h⟩

end Go.Proofs.Ythfanfnbjldddaa


/- DropRow of the model. -/
namespace Go.Proofs.Ythfanfnbjldddaa
open Go.RowKit Go.Maps

/-- A leaf is appended: its rows are newer than all else. -/
theorem OwnLv.snoc {w0 w1 w2 : World} {B n m : Nat} {v v' x : Value} {vs : List Value} {ls : List (List Ch.Row)} {l : List Ch.Row} {o : Obj} (h : OwnV w0 B v n vs ls) (hb : Below w0.heap.size w0 w1)
    (hx : w1.ownsRow w0.heap.size 105 3 x l.length (rcells l)) (hB : B ≤ w0.heap.size) (hm : m = n + 1)
    (h2 : w2.ownsRow B 107 1 v' m (vs ++ [x])) (hg : (w1.alloc o).grownBy w2 v.ownBlock) (hat : ∀ g, v'.ownBlock = some g → v.ownBlock = some g ∨ (w1.alloc o).heap.size ≤ g) : OwnLv w2 B v' m (ls ++ [l]) := by
  subst hm
  have hlt := h.lt
  obtain ⟨hl, ho, hi, hd, hd'⟩ := h
  have hvl : vs.length = n := by have := ho.1; omega
  have ba : Below w1.heap.size w1 (w1.alloc o) := (Below.refl _ _).alloc (Nat.le_refl _) _
  have hsz := hb.size
  have Lx := owns_lt hx
  have Lv := owns_lt ho
  have hin : ∀ (i : Nat) (y : Value), vs[i]? = some y → i < n := by
    intro i y hy
    rcases Nat.lt_or_ge i n with h | h
    · exact h
    · rw [List.getElem?_eq_none (by omega)] at hy; cases hy
  have split : ∀ (i : Nat) (y : Value), (vs ++ [x])[i]? = some y → (i < n ∧ vs[i]? = some y) ∨ (i = n ∧ y = x) := by
    intro i y hy
    rcases Nat.lt_or_ge i n with h | h
    · rw [List.getElem?_append_left (by omega)] at hy; exact .inl ⟨h, hy⟩
    · rw [List.getElem?_append_right (by omega)] at hy
      by_cases h0 : i - vs.length = 0
      · rw [h0] at hy; simp at hy; exact .inr ⟨by omega, hy.symm⟩
      · rw [List.getElem?_eq_none (by simp; omega)] at hy; cases hy
  refine ⟨by simp [hl], vs ++ [x], h2, fun i hlt' => ?_, ?_, ?_⟩
  · by_cases hin' : i = n
    · subst hin'
      refine ⟨x, by rw [List.getElem?_append_right (by omega)]; simp [hvl], ?_⟩
      have e : (ls ++ [l]).getD i [] = l := by simp [List.getD, hl]
      rw [e]
      refine owns_base (owns_grown (owns_below hx ba) hg fun g hg' he => ?_) hB
      have := Lx g hg'
      have := Lv g he
      omega
    · obtain ⟨y, h1, h3⟩ := hi i (by omega)
      refine ⟨y, by rw [List.getElem?_append_left (by omega)]; exact h1, ?_⟩
      have e : (ls ++ [l]).getD i [] = ls.getD i [] := by simp [List.getD, List.getElem?_append_left (show i < ls.length by omega)]
      rw [e]
      refine owns_grown (owns_below (owns_below h3 hb) ba) hg fun g hg' he => ?_
      exact hd' i y g h1 he hg'
  · intro i j y z g hij hy hz hyg hzg
    rcases split i y hy with ⟨hi1, hy'⟩ | ⟨hi1, rfl⟩
    · rcases split j z hz with ⟨hj1, hz'⟩ | ⟨hj1, rfl⟩
      · exact hd i j y z g hij hy' hz' hyg hzg
      · have := hlt i y g hy' hyg
        have := Lx g hzg
        omega
    · rcases split j z hz with ⟨hj1, hz'⟩ | ⟨hj1, rfl⟩ <;> omega
  · intro i y g hy hvg hyg
    have hv' := hat g hvg
    simp only [World.alloc, Array.size_push] at hv'
    rcases split i y hy with ⟨hi1, hy'⟩ | ⟨hi1, rfl⟩
    · rcases hv' with h3 | h3
      · exact hd' i y g hy' h3 hyg
      · have := hlt i y g hy' hyg
        omega
    · have := Lx g hyg
      rcases hv' with h3 | h3
      · have := Lv g h3
        omega
      · omega

theorem one_leaf {w : World} {x : Value} {t : TypeId} {H : Nat} (hH : H = w.heap.size) : CellsAt (w.alloc (.cells #[x] t)) (some ⟨H, 0, none⟩) 1 [x] := by
  subst hH
  refine ⟨rfl, fun _ => ⟨_, _, rfl, fun i hi => ?_⟩⟩
  rw [Nat.zero_add]
  have := cell_of_row (w.alloc (.cells #[x] t)) _ i _ _ _ (heap_alloc_new w _)
  rw [this]
  simp

theorem Ch.filter_yes {key : Int} {l : List Ch.Row} {k : Nat} (h : k < l.length) (hin : ¬ (l.getD k Row.zero).k = key) : (l.take (k + 1)).filter (notK key) = (l.take k).filter (notK key) ++ [l.getD k Row.zero] := by
  rw [take_snoc l Row.zero k h]; generalize l.getD k Row.zero = r at *; rw [List.filter_append]; simp [notK, hin]
theorem Ch.filter_no {key : Int} {l : List Ch.Row} {k : Nat} (h : k < l.length) (hin : (l.getD k Row.zero).k = key) : (l.take (k + 1)).filter (notK key) = (l.take k).filter (notK key) := by
  rw [take_snoc l Row.zero k h]; generalize l.getD k Row.zero = r at *; rw [List.filter_append]; simp [notK, hin]

set_option maxHeartbeats 4000000 in
theorem specDrop_any (a : Option Addr) (n cap : Nat) (key : Int) (ls : List (List Ch.Row)) (w : World) (h : LvAt w a n ls) (hs : Ch.lvSize ls ≤ 1048576) :
    Calls Try.prog 151 #[.slice a n cap, .int .i64 key] w fun e w' => ∃ a' m c', e = .returned (.slice a' m c') ∧ OwnLv w' w.heap.size (.slice a' m c') m (Ch.drop ls key) ∧ Below w.heap.size w w' := by
  have HL := h.len
  have hn : n ≤ 1048576 := by unfold Ch.lvSize at hs; have := HL.out; omega
  have o0 := empty_leaves w w.heap.size (Nat.le_refl _)
  have O0 : OwnLv (w.alloc (.cells #[] 107)) w.heap.size (.slice (some ⟨w.heap.size, 0, none⟩) 0 0) 0 [] := ⟨rfl, [], o0, fun i hi => absurd hi (by omega), fun i j x y g _ hx => by simp at hx, fun i x g hx => by simp at hx⟩
  clear o0
  go_enter Try.func151, Try.ntmps151
  go_wp2
  go_loopw [5, 6] (fun q i wr => ∃ (k m : Nat) (a' : Option Addr) (c' : Nat), k ≤ n ∧ m ≤ k ∧ i = .int .i64 k ∧ q = .slice a' m c' ∧ OwnLv wr w.heap.size (.slice a' m c') m (Ch.drop (ls.take k) key) ∧ Below w.heap.size w wr) (fun _ i _ => n - (intOf i).toNat)
  case atStart => exact ⟨0, 0, _, _, Nat.zero_le _, Nat.le_refl _, rfl, rfl, by simpa [Ch.drop] using O0, (Below.refl _ _).alloc (Nat.le_refl _) _⟩
  case round =>
    clear O0
    obtain ⟨k, m, a', c', hk, hmk, rfl, rfl, own, hB⟩ := hrel
    by_cases hlt : k < n
    · have hkl : k < ls.length := by have := HL.out; omega
      have HS := hid (Ch.lv_leaf hs k)
      have HD := hid (Ch.drop_take ls key k hkl)
      obtain ⟨b, off, ai, ni, ci, rfl, hc, hr, hni⟩ := h.leaf hlt
      have HRl := hr.rlen
      have hni' : ni ≤ 1048576 := by have := HS.out; have := HRl.out; omega
      generalize ls.getD k [] = l at *
      generalize Ch.drop (ls.take k) key = DL at *
      obtain ⟨wo, hwo⟩ : ∃ x : World, x = wr := ⟨_, rfl⟩
      subst hwo
      have hcr := keep_cell hB hc
      have e0 := empty_rows wo wo.heap.size (Nat.le_refl _)
      have bR : Below wo.heap.size wo (wo.alloc (.cells #[] 105)) := (Below.refl _ _).alloc (Nat.le_refl _) _
      go_wp2
      go_loopw [7, 8] (fun q i wq => ∃ (t p : Nat) (a2 : Option Addr) (c2 : Nat), t ≤ ni ∧ p ≤ t ∧ i = .int .i64 t ∧ q = .slice a2 p c2 ∧ wq.ownsRow wo.heap.size 105 3 (.slice a2 p c2) p (rcells ((l.take t).filter (Ch.notK key))) ∧ Below wo.heap.size wo wq) (fun _ i _ => ni - (intOf i).toNat)
      case atStart => exact ⟨0, 0, _, _, Nat.zero_le _, Nat.le_refl _, rfl, rfl, by simpa using e0, bR⟩
      case round =>
        clear e0 bR
        obtain ⟨t, p, a2, c2, ht, hpt, rfl, rfl, own2, hB2⟩ := hrel
        have hcq := keep_cell hB2 hcr
        by_cases hlt2 : t < ni
        · obtain ⟨b1, o1, rfl, q0, q1, q2⟩ := (hr.below (hB.trans (hB2.mono hB.size))).row hlt2
          have HY := hid (fun hin => Ch.filter_yes (key := key) (l := l) (k := t) (by have := HRl.out; omega) hin)
          have HNo := hid (fun hin => Ch.filter_no (key := key) (l := l) (k := t) (by have := HRl.out; omega) hin)
          generalize l.getD t Ch.Row.zero = rr at *
          obtain ⟨rk, rv, rg⟩ := rr
          simp only at q0 q1 q2 HY HNo
          generalize (l.take t).filter (Ch.notK key) = S at *
          have hsum : p + 1 ≤ 2097152 := by omega
          have bA : ∀ o, Below wr.heap.size wr (wr.alloc o) := fun o => (Below.refl _ _).alloc (Nat.le_refl _) _
          by_cases hke : rk = key
          · have HNo' := hid (HNo.out hke)
            have hne : (rk != key) = false := by simpa using hke
            clear HY HNo hke
            go_wp2
            go_roundw
            case rel => exact ⟨t + 1, p, a2, c2, by omega, by omega, by go_num, rfl, by rw [HNo'.out]; exact own2, hB2⟩
            case measure => simp [intOf]; omega
          · have HY' := hid (HY.out hke)
            have hne : (rk != key) = true := by simpa using hke
            clear HY HNo hke
            go_wp2_with (at_builtin; go_must (refine wpList_appRs (.tmp 38) (.tmp 47) wo.heap.size (.slice a2 p c2) p S 1 [⟨rk, rv, rg⟩] hsum ?_ ?_ ?_ ?_ ?_ ?_ ?_; exact rfl; exact rfl; exact rfl; exact ⟨_, _, rfl, new_row (r := ⟨rk, rv, rg⟩) rfl⟩; exact owns_below own2 (bA _); (focus (have := hB2.size; simp; omega)); intro a3 c3 w3 own3 b3))
            go_roundw
            case rel => exact ⟨t + 1, p + 1, a3, c3, by omega, by omega, by go_num, rfl, by rw [HY'.out]; exact own3, (hB2.alloc hB2.size _).trans b3⟩
            case measure => simp [intOf]; omega
        · obtain rfl : t = ni := by omega
          have hbq := hB.trans (hB2.mono hB.size)
          rw [List.take_of_length_le (by have := HRl.out; omega)] at own2
          have hpl : p = (l.filter (Ch.notK key)).length := by have := own2.1; rw [rcells_len] at this; omega
          have HPL := hid hpl
          clear hpl
          by_cases hp0 : p = 0
          · subst hp0
            have HD' : Hid (Ch.drop (ls.take (k + 1)) key = DL) := by
              show _ = _
              rw [HD.out]
              have : Ch.full (l.filter (Ch.notK key)) = false := by unfold Ch.full; rw [← HPL.out]; rfl
              rw [this]; simp
            clear HD
            go_wp2
            go_roundw
            case rel => exact ⟨k + 1, m, a', c', by omega, by omega, by go_num, rfl, by rw [HD'.out]; exact own.below hB2, hbq⟩
            case measure => simp [intOf]; omega
          · have HD' : Hid (Ch.drop (ls.take (k + 1)) key = DL ++ [l.filter (Ch.notK key)]) := by
              show _ = _
              rw [HD.out]
              have : Ch.full (l.filter (Ch.notK key)) = true := by unfold Ch.full; rw [← HPL.out]; simp; omega
              rw [this]; simp
            clear HD
            have hp1 : (0 : Int) < (p : Int) := by omega
            obtain ⟨vs, hV⟩ := own.told
            have hoV := hV.2.1
            have hsum : m + 1 ≤ 2097152 := by omega
            have bA : ∀ o, Below wr.heap.size wr (wr.alloc o) := fun o => (Below.refl _ _).alloc (Nat.le_refl _) _
            go_wp2_with (at_builtin; go_must (refine wpList_appLv (.tmp 52) (.tmp 55) w.heap.size (.slice a' m c') m vs 1 [.slice a2 p c2] hsum (by simp [Value.oneCell']) ?_ ?_ ?_ ?_ ?_ ?_ ?_ (by omega); exact rfl; exact rfl; exact rfl; exact ⟨_, _, rfl, one_leaf rfl⟩; exact owns_below (owns_below hoV hB2) (bA _); (focus (have := hbq.size; simp; omega)); intro a3 c3 w3 own3 gr3 at3))
            go_roundw
            case rel =>
              refine ⟨k + 1, m + 1, a3, c3, by omega, by omega, by go_num, rfl, ?_, ?_⟩
              · rw [HD'.out]
                refine OwnLv.snoc hV hB2 ?_ hB.size rfl own3 gr3 at3
                have := HPL.out
                rw [← this]
                exact own2
              · refine (hbq.alloc hbq.size _).grown gr3 (by have := hbq.size; simp; omega) ?_
                intro j hj
                exact (owns_lt hoV j hj).1
            case measure => simp [intOf]; omega
    · obtain rfl : k = n := by omega
      go_wp2
      go_ret
      have e1 := HL.out
      rw [List.take_of_length_le (by omega)] at own
      exact ⟨a', m, c', rfl, own, hB⟩

end Go.Proofs.Ythfanfnbjldddaa


/- Results that are leaves: comparisons, marks. -/
namespace Go.Proofs.Ythfanfnbjldddaa
open Go.RowKit

theorem OwnV.within {lo hi : Nat} {w w' : World} {B n : Nat} {v : Value} {vs : List Value} {ls : List (List Ch.Row)} (h : OwnV w B v n vs ls) (hw : Within lo hi w w') (hv : ∀ g, v.ownBlock = some g → g < lo ∨ hi ≤ g)
    (hi' : ∀ (i : Nat) (x : Value) (g : Nat), vs[i]? = some x → x.ownBlock = some g → g < lo ∨ hi ≤ g) : OwnV w' B v n vs ls := by
  obtain ⟨hl, ho, hi, hd, hd'⟩ := h
  refine ⟨hl, hw.owns ho hv, fun i hlt => ?_, hd, hd'⟩
  obtain ⟨x, h1, h2⟩ := hi i hlt
  exact ⟨x, h1, hw.owns h2 (fun g hg => hi' i x g h1 hg)⟩

set_option maxHeartbeats 400000 in
theorem markLeafS_V (B lo hi : Nat) (a : Option Addr) (n cap : Nat) (vs : List Value) (ls : List (List Ch.Row)) (w : World) (h : OwnV w B (.slice a n cap) n vs ls) (hlt0 : ∀ (i : Nat) (x : Value) (g : Nat), vs[i]? = some x → x.ownBlock = some g → lo ≤ g ∧ g < hi) (hs : Ch.lvSize ls ≤ 1048576) :
    Calls Try.prog 42 #[.slice a n cap, .int .i64 1] w fun e w' => e = .returned (.int .i64 (1 + 3 * (Ch.before ls n : Int))) ∧ OwnV w' B (.slice a n cap) n vs (lvMarks ls) ∧ Within lo hi w w' := by
  have HL : Hid (ls.length = n) := h.1
  have hn : n ≤ 1048576 := by unfold Ch.lvSize at hs; have := HL.out; omega
  go_enter Try.func42, Try.ntmps42
  go_wp2
  go_loopw [1, 5] (fun q i wr => ∃ k : Nat, k ≤ n ∧ i = .int .i64 k ∧ q = .int .i64 (1 + 3 * (Ch.before ls k : Int)) ∧ OwnV wr B (.slice a n cap) n vs (lvMarked ls k) ∧ Within lo hi w wr) (fun _ i _ => n - (intOf i).toNat)
  case atStart => exact ⟨0, Nat.zero_le _, rfl, by simp [Ch.before], by simpa [lvMarked] using h, Within.refl _ _ _⟩
  case round =>
    obtain ⟨k, hk, rfl, rfl, own, hW⟩ := hrel
    by_cases hlt : k < n
    · have hkl : k < ls.length := by have := HL.out; omega
      have HS := hid (Ch.lv_leaf hs k)
      have HB := hid (Ch.before_next ls k hkl)
      have hbs := Ch.before_small hs k
      have HM := hid (lvMarked_set ls k hkl)
      have HK : Hid (lvMark ls k = rmarks (1 + 3 * (Ch.before ls k : Int)) (ls.getD k []).length) := rfl
      have HWs := hid hW.size
      obtain ⟨b, ai, ci, rfl, hbl, hc, hvk, ho, hput⟩ := own.leafAt hlt
      rw [lvMarked_at ls k] at hc hvk ho hput
      generalize ls.getD k [] = l at *
      generalize Ch.before ls k = q at *
      go_wp2_with fail
      refine (markRowS_own (1 + 3 * (q : Int)) B l.length ai ci l _ (by omega) (by omega) ho (by have := HS.out; omega)).mono ?_
      rintro e w1 ⟨rfl, own1, gr1⟩
      go_wp2
      go_roundw
      case rel =>
        refine ⟨k + 1, by omega, by go_num, by rw [HB.out]; simp; omega, ?_, ?_⟩
        · rw [← HM.out]
          refine hput _ _ gr1 (by rw [HK.out, rmarks_len]) ?_
          rw [HK.out, rmarks_len]
          exact own1
        · rcases ho.2 with ⟨hv, _⟩ | ⟨g, cp, cur, hv, _⟩
          · rw [hv] at gr1
            exact hW.trans ⟨gr1.os, gr1.tape, gr1.output, gr1.size, fun j hj _ => gr1.block j hj (by simp [Value.ownBlock])⟩
          · have hgb := hlt0 k _ g hvk (by rw [hv]; rfl)
            rw [hv] at gr1
            exact hW.trans (within_grown gr1 hgb.1 hgb.2)
      case measure => simp [intOf]; omega
    · obtain rfl : k = n := by omega
      go_wp2
      go_ret
      refine ⟨rfl, ?_, hW⟩
      have e := HL.out
      subst e
      simpa [lvMarked, lvMarks] using own


theorem lvMarks_at (ls : List (List Ch.Row)) (k : Nat) (h : k < ls.length) : (lvMarks ls).getD k [] = lvMark ls k := by
  simp [lvMarks, List.getD, h]
theorem lvMarks_len (ls : List (List Ch.Row)) : (lvMarks ls).length = ls.length := by simp [lvMarks]
theorem lvMark_len (ls : List (List Ch.Row)) (k : Nat) : (lvMark ls k).length = (ls.getD k []).length := by simp [lvMark, rmarks_len]

end Go.Proofs.Ythfanfnbjldddaa


/- DropRow of the model and of the program. -/
namespace Go.Proofs.Ythfanfnbjldddaa
open Go.RowKit Go.Maps

theorem OwnLv.nil (w : World) (B : Nat) : OwnLv w B (.slice none 0 0) 0 [] := ⟨rfl, [], World.ownsRow_nil _ _ _ _, fun i hi => absurd hi (by omega), fun i j x y g _ hx => by simp at hx, fun i x g hx => by simp at hx⟩
theorem owns_set {w : World} {base : Nat} {e : TypeId} {size : Nat} {v : Value} {n : Nat} {xs : List Value} (h : w.ownsRow base e size v n xs) {p o : Nat} (hne : ∀ g, v.ownBlock = some g → g ≠ p) (u : Value) : (w.setCell ⟨p, o, none⟩ u).ownsRow base e size v n xs := by
  refine ⟨h.1, ?_⟩
  rcases h.2 with h' | ⟨g, cap, cur, hv, hb, hh, h1, h2, h3, h4⟩
  · exact .inl h'
  · refine .inr ⟨g, cap, cur, hv, hb, ?_, h1, h2, h3, h4⟩
    rw [Below.heap_setCell _ _ _ _ (hne g (by rw [hv]; rfl))]; exact hh
theorem OwnLv.box {w : World} {B n : Nat} {v : Value} {ls : List (List Ch.Row)} (h : OwnLv w B v n ls) {p o : Nat} (hp : p < B) (u : Value) : OwnLv (w.setCell ⟨p, o, none⟩ u) B v n ls := by
  obtain ⟨hl, vs, ho, hi, hd, hd'⟩ := h
  refine ⟨hl, vs, owns_set ho (fun g hg => by have := owns_lt ho g hg; omega) u, fun i hlt => ?_, hd, hd'⟩
  obtain ⟨x, h1, h2⟩ := hi i hlt
  exact ⟨x, h1, owns_set h2 (fun g hg => by have := owns_lt h2 g hg; omega) u⟩

/-- One list is written and put back, cut in its own block. -/
theorem OwnV.cut {w w' : World} {B g n cap k : Nat} {vs : List Value} {ls : List (List Ch.Row)} {x x' : Value} {l' : List Ch.Row} (h : OwnV w B (.slice (some ⟨g, 0, none⟩) n cap) n vs ls) (hk : k < n) (hx : vs[k]? = some x) (hg : w.grownBy w' x.ownBlock) (hb : x'.ownBlock = x.ownBlock)
    (ho' : w'.ownsRow B 105 3 x' l'.length (rcells l')) : OwnV (w'.setCell ⟨g, k, none⟩ x') B (.slice (some ⟨g, 0, none⟩) n cap) n (vs.set k x') (ls.set k l') := by
  obtain ⟨hl, ho, hi, hd, hd'⟩ := h
  have hvl : vs.length = n := by have := ho.1; omega
  have ho1 := owns_grown ho hg (fun g' hg' e => hd' k x g' hx hg' e)
  have hst := ho1.stored k x'
  have get : ∀ (i : Nat) (y : Value), (vs.set k x')[i]? = some y → ∃ y0, vs[i]? = some y0 ∧ y.ownBlock = y0.ownBlock := by
    intro i y hy
    by_cases hik : k = i
    · subst hik
      rw [List.getElem?_set_self (by omega)] at hy
      cases hy
      exact ⟨x, hx, hb⟩
    · rw [List.getElem?_set_ne hik] at hy
      exact ⟨y, hy, rfl⟩
  refine ⟨by simpa using hl, hst.1, fun i hlt => ?_, ?_, ?_⟩
  · by_cases hik : k = i
    · subst hik
      refine ⟨x', by simp [hvl, hk], ?_⟩
      have e : (ls.set k l').getD k [] = l' := by simp [List.getD, hl, hk]
      rw [e]
      refine owns_grown ho' hst.2 fun g' hg' he => ?_
      rw [hb] at hg'
      simp at he
      subst he
      exact hd' k x _ hx rfl hg'
    · obtain ⟨y, h1, h2⟩ := hi i hlt
      refine ⟨y, by rw [List.getElem?_set_ne hik]; exact h1, ?_⟩
      have e : (ls.set k l').getD i [] = ls.getD i [] := by simp [List.getD, hik]
      rw [e]
      refine owns_grown (owns_grown h2 hg fun g' hg' e => ?_) hst.2 fun g' hg' he => ?_
      · rcases Nat.lt_or_gt_of_ne hik with hlt' | hgt
        · exact hd k i x y g' hlt' hx h1 e hg'
        · exact hd i k y x g' hgt h1 hx hg' e
      · simp at he
        subst he
        exact hd' i y _ h1 rfl hg'
  · intro i j y z g' hij hy hz hyg
    obtain ⟨y0, hy0, ey⟩ := get i y hy
    obtain ⟨z0, hz0, ez⟩ := get j z hz
    rw [ez]
    exact hd i j y0 z0 g' hij hy0 hz0 (ey ▸ hyg)
  · intro i y g' hy hv
    obtain ⟨y0, hy0, ey⟩ := get i y hy
    rw [ey]
    exact hd' i y0 g' hy0 hv

/-- A leaf is taken out of the list of leaves. -/
theorem OwnV.out {w w' : World} {B g n cap k r : Nat} {xs zs : List Value} {y : Value} {ls : List (List Ch.Row)} (h : OwnV w B (.slice (some ⟨g, 0, none⟩) n cap) n (xs ++ [y] ++ zs) ls) (hn : n = k + 1 + r) (hx : xs.length = k) (hg : w.grownBy w' (some g))
    (ho' : w'.ownsRow B 107 1 (.slice (some ⟨g, 0, none⟩) (k + r) cap) (k + r) (xs ++ zs)) : OwnLv w' B (.slice (some ⟨g, 0, none⟩) (k + r) cap) (k + r) (ls.take k ++ ls.drop (k + 1)) := by
  obtain ⟨hl, ho, hi, hd, hd'⟩ := h
  have hvl : (xs ++ [y] ++ zs).length = n := by have := ho.1; omega
  simp only [List.length_append, List.length_cons, List.length_nil] at hvl
  have up : ∀ i, (xs ++ zs)[i]? = (xs ++ [y] ++ zs)[if i < k then i else i + 1]? := by
    intro i
    by_cases hik : i < k
    · rw [if_pos hik, List.getElem?_append_left (by omega), List.append_assoc, List.getElem?_append_left (by omega)]
    · rw [if_neg hik, List.getElem?_append_right (by omega), List.getElem?_append_right (by simp; omega)]
      rw [show i + 1 - (xs ++ [y]).length = i - xs.length by simp]
  have upl : ∀ i, (ls.take k ++ ls.drop (k + 1)).getD i [] = ls.getD (if i < k then i else i + 1) [] := by
    intro i
    by_cases hik : i < k
    · rw [if_pos hik]
      simp only [List.getD]
      rw [List.getElem?_append_left (by simp; omega)]
      simp [hik]
    · rw [if_neg hik]
      simp only [List.getD]
      rw [List.getElem?_append_right (by simp; omega)]
      simp only [List.getElem?_drop, List.length_take]
      congr 2
      omega
  refine ⟨by simp; omega, xs ++ zs, ho', fun i hlt => ?_, ?_, ?_⟩
  · obtain ⟨x, h1, h2⟩ := hi (if i < k then i else i + 1) (by split <;> omega)
    refine ⟨x, by rw [up]; exact h1, ?_⟩
    rw [upl]
    refine owns_grown h2 hg fun g' hg' he => ?_
    simp at he
    subst he
    exact hd' _ x _ h1 rfl hg'
  · intro i j x z g' hij hx' hz'
    rw [up] at hx' hz'
    exact hd _ _ x z g' (by split <;> split <;> omega) hx' hz'
  · intro i x g' hx' hv
    rw [up] at hx'
    simp [Value.ownBlock] at hv
    subst hv
    exact hd' _ x _ hx' rfl

theorem rcells_split (l : List Ch.Row) (j : Nat) (h : j < l.length) : rcells l = rcells (l.take j) ++ rcells [l.getD j Ch.Row.zero] ++ rcells (l.drop (j + 1)) := by
  rw [← rcells_append, ← rcells_append]
  congr 1
  conv => lhs; rw [Ch.split_at l Ch.Row.zero j h]
  simp
theorem inner_one {w : World} {B n : Nat} {v : Value} {vs : List Value} {ls : List (List Ch.Row)} (h : OwnV w B v n vs ls) : ∀ u ∈ vs, u.oneCell' = true := by
  intro u hu
  obtain ⟨k, hk, rfl⟩ := List.getElem_of_mem hu
  obtain ⟨hl, ho, hi, _⟩ := h
  have hvl : vs.length = n := by have := ho.1; omega
  obtain ⟨x, h1, h2⟩ := hi k (by omega)
  obtain ⟨ai, ci, rfl⟩ := owns_shape h2
  rw [List.getElem?_eq_getElem hk] at h1
  simp only [Option.some.injEq] at h1
  rw [h1]; rfl

end Go.Proofs.Ythfanfnbjldddaa


/- insertRow of the program: a row put in between. -/
namespace Go.Proofs.Ythfanfnbjldddaa
open Go.RowKit

theorem gr_chain {w W w' : World} {row : Option Nat} (hb : Below w.heap.size w W) (h : W.grownBy w' row) : w.grownBy w' row :=
  ⟨h.os.trans hb.os, h.tape.trans hb.tape, h.output.trans hb.output, Nat.le_trans hb.size h.size, fun k hk hne => (h.block k (Nat.lt_of_lt_of_le hk hb.size) hne).trans (hb.block k hk)⟩
theorem rcells_take (l : List Ch.Row) (i : Nat) : (rcells l).take (i * 3) = rcells (l.take i) := by
  by_cases h : i ≤ l.length
  · conv => lhs; rw [← List.take_append_drop i l, rcells_append]
    exact List.take_left' (by rw [rcells_len]; simp; omega)
  · rw [List.take_of_length_le (by rw [rcells_len]; omega), List.take_of_length_le (by omega)]
theorem rcells_drop (l : List Ch.Row) (i : Nat) : (rcells l).drop (i * 3) = rcells (l.drop i) := by
  by_cases h : i ≤ l.length
  · conv => lhs; rw [← List.take_append_drop i l, rcells_append]
    exact List.drop_left' (by rw [rcells_len]; simp; omega)
  · rw [List.drop_of_length_le (by rw [rcells_len]; omega), List.drop_of_length_le (by omega)]; rfl

set_option maxHeartbeats 4000000 in
theorem insertRow_any (B g n cap : Nat) (l : List Ch.Row) (rk rv : Int) (rg : Bool) (w : World) (hown : w.ownsRow B 105 3 (.slice (some ⟨g, 0, none⟩) n cap) n (rcells l)) (hn : n ≤ 1048576) (hB : B ≤ w.heap.size) :
    Calls Try.prog 130 #[.slice (some ⟨g, 0, none⟩) n cap, .agg #[.int .i64 rk, .int .i64 rv, .bool rg]] w fun e w' => ∃ g' c', e = .returned (.slice (some ⟨g', 0, none⟩) (n + 1) c') ∧ w'.ownsRow B 105 3 (.slice (some ⟨g', 0, none⟩) (n + 1) c') (n + 1) (rcells (l.take (Ch.insAt rk l) ++ [⟨rk, rv, rg⟩] ++ l.drop (Ch.insAt rk l))) ∧ w.grownBy w' (some g) ∧ (g' = g ∨ w.heap.size ≤ g') := by
  have hc := owns_cells hown
  have HL := hc.rlen
  have hgl : g < w.heap.size := (owns_lt hown g rfl).2
  have b0 : ∀ t, Below w.heap.size w (w.alloc (.cells #[.int .i64 rk, .int .i64 rv, .bool rg] t)) := fun t => (Below.refl _ _).alloc (Nat.le_refl _) _
  go_enter Try.func130, Try.ntmps130
  go_wp2
  go_loopw [5] (fun i wr => ∃ t : Nat, t ≤ n ∧ i = .int .i64 t ∧ (∀ j, j < t → (l.getD j Ch.Row.zero).k < rk) ∧ wr.cell? ⟨w.heap.size, 0, none⟩ = some (.int .i64 rk) ∧ wr.cell? ⟨w.heap.size, 1, none⟩ = some (.int .i64 rv) ∧ wr.cell? ⟨w.heap.size, 2, none⟩ = some (.bool rg) ∧ Below w.heap.size w wr) (fun i _ => n - (intOf i).toNat)
  case atStart => exact ⟨0, Nat.zero_le _, rfl, fun j hj => absurd hj (by omega), by simp [go_sem], by simp [go_sem], by simp [go_sem], b0 _⟩
  case round =>
    obtain ⟨t, ht, rfl, hlow, r0, r1, r2, hB1⟩ := hrel
    have HLow := hid hlow
    clear hlow
    have hown1 := owns_below hown hB1
    have hstop : (t < n → ¬ (l.getD t Ch.Row.zero).k < rk) → wr.ownsRow B 105 3 (.slice (some ⟨g, 0, none⟩) n cap) n (rcells l) → Ch.insAt rk l = t := fun hs _ => Ch.insAt_eq (by have := HL.out; omega) HLow.out (fun h => hs (by have := HL.out; omega))
    have hins : ∀ q, Calls Try.prog 153 #[.slice (some ⟨g, 0, none⟩) n cap, .int .i64 t, .slice (some ⟨wr.heap.size, 0, none⟩) 1 1] ((wr.drewN q).alloc (.cells #[.int .i64 rk, .int .i64 rv, .bool rg] 105)) fun e w' => ∃ g' c', e = .returned (.slice (some ⟨g', 0, none⟩) (n + 1) c') ∧ w'.ownsRow B 105 3 (.slice (some ⟨g', 0, none⟩) (n + 1) c') (n + 1) (rcells (l.take t ++ [⟨rk, rv, rg⟩] ++ l.drop t)) ∧ w.grownBy w' (some g) ∧ (g' = g ∨ w.heap.size ≤ g') := by
      intro q
      have bq : Below w.heap.size w ((wr.drewN q).alloc (.cells #[.int .i64 rk, .int .i64 rv, .bool rg] 105)) := (below_drewN hB1 q).alloc hB1.size _
      refine (insertR_any B g n cap t wr.heap.size (rcells l) (rcells [⟨rk, rv, rg⟩]) _ (owns_below hown bq) (heap_newI rfl) rfl (rcells_one _) (rcells_one _) hn ht (by have := bq.size; omega) (by have := hB1.size; omega)).mono ?_
      rintro e w' ⟨g', c', rfl, own', gr', h'⟩
      refine ⟨g', c', rfl, ?_, gr_chain bq gr', ?_⟩
      · rw [rcells_append, rcells_append, ← rcells_take, ← rcells_drop]; exact own'
      · rcases h' with h' | h'
        · exact .inl h'
        · exact .inr (by have := bq.size; omega)
    by_cases hlt : t < n
    · obtain ⟨b1, o1, he, q0, q1, q2⟩ := (hc.below hB1).row hlt
      simp only [Option.some.injEq, Addr.mk.injEq, and_true] at he
      obtain ⟨rfl, rfl⟩ := he
      have HN := hid (fun h => Ch.insAt_eq (key := rk) (l := l) (t := t) (by have := HL.out; omega) HLow.out (fun _ => h))
      have HY : Hid ((l.getD t Ch.Row.zero).k < rk → ∀ j, j < t + 1 → (l.getD j Ch.Row.zero).k < rk) := fun h j hj => by
        by_cases e : j = t
        · rw [e]; exact h
        · exact HLow.out j (by omega)
      generalize (l.getD t Ch.Row.zero).k = xk at *
      clear q1 q2 HLow hstop
      rw [Nat.zero_add] at q0
      have hit : ((t : Int) < (n : Int)) := by omega
      by_cases hk : xk < rk
      · have hd : decide (xk < rk) = true := by simpa using hk
        have HY' := hid (HY.out hk)
        clear HY HN hins hk
        go_wp2
        go_quiet (fail)
        go_wp2
        go_roundw
        case rel => exact ⟨t + 1, by omega, by go_num, HY'.out, r0, r1, r2, below_drewN hB1 _⟩
        case measure => simp [intOf]; omega
      · have hd : decide (xk < rk) = false := by simpa using hk
        have HN' := hid (HN.out hk)
        clear HY HN hk
        go_wp2
        go_quiet (fail)
        go_wp2_with fail
        refine (hins _).mono ?_
        rintro e w' ⟨g', c', rfl, own', gr', h'⟩
        go_wp2
        go_ret
        rw [HN'.out]
        exact ⟨g', c', rfl, own', gr', h'⟩
    · obtain rfl : t = n := by omega
      have HN := hid (hstop (fun h => absurd h (by omega)) hown1)
      have hd : ¬ ((t : Int) < (t : Int)) := by omega
      clear hstop
      go_wp2
      go_quiet (fail)
      go_wp2_with fail
      refine (hins _).mono ?_
      rintro e w' ⟨g', c', rfl, own', gr', h'⟩
      go_wp2
      go_ret
      rw [HN.out]
      exact ⟨g', c', rfl, own', gr', h'⟩
end Go.Proofs.Ythfanfnbjldddaa


/- l3Into of the model: a row put into rows. -/
namespace Go.Proofs.Ythfanfnbjldddaa
open Go.RowKit

set_option maxHeartbeats 8000000 in
theorem specInto_any (a : Option Addr) (n cap : Nat) (l : List Ch.Row) (rk rv : Int) (rg : Bool) (w : World) (h : CellsAt w a (n * 3) (rcells l)) (hn : n ≤ 1048576) :
    Calls Try.prog 136 #[.slice a n cap, .agg #[.int .i64 rk, .int .i64 rv, .bool rg]] w fun e w' => ∃ a' m c', e = .returned (.slice a' m c') ∧ w'.ownsRow w.heap.size 105 3 (.slice a' m c') m (rcells (Ch.into ⟨rk, rv, rg⟩ l)) ∧ Below w.heap.size w w' := by
  have HL := h.rlen
  have bA : ∀ (W : World) o, Below W.heap.size W (W.alloc o) := fun W o => (Below.refl _ _).alloc (Nat.le_refl _) _
  go_enter Try.func136, Try.ntmps136
  go_wp2
  obtain ⟨B, HBe⟩ : ∃ B, Hid (B = w.heap.size + 1) := ⟨_, rfl⟩
  go_loopw [5, 6, 7] (fun q dv i wr => ∃ (t p : Nat) (a2 : Option Addr) (c2 : Nat) (d : Bool) (S : List Ch.Row), t ≤ n ∧ p ≤ t + d.toNat ∧ i = .int .i64 t ∧ dv = .bool d ∧ q = .slice a2 p c2 ∧ Hid (Ch.InSt ⟨rk, rv, rg⟩ l t d S) ∧ wr.ownsRow B 105 3 (.slice a2 p c2) p (rcells S) ∧ Below B (w.alloc (.cells #[.int .i64 rk, .int .i64 rv, .bool rg] 105)) wr) (fun _ _ i _ => n - (intOf i).toNat)
  case atStart =>
    have e := HBe.out
    subst e
    refine ⟨0, 0, _, _, false, [], Nat.zero_le _, by simp, rfl, rfl, rfl, Ch.InSt.start _ _, ?_, ?_⟩
    · have := empty_rows (w.alloc (.cells #[.int .i64 rk, .int .i64 rv, .bool rg] 105)) (w.heap.size + 1) (by simp)
      simpa using this
    · exact (Below.refl _ _).alloc (by simp) _
  case round =>
    obtain ⟨t, p, a2, c2, d, S, ht, hp, rfl, rfl, rfl, st, own, hB⟩ := hrel
    have hBs : B ≤ wr.heap.size := by have := hB.size; have := HBe.out; simp at *; omega
    have hBo : Below (w.alloc (.cells #[.int .i64 rk, .int .i64 rv, .bool rg] 105)).heap.size (w.alloc (.cells #[.int .i64 rk, .int .i64 rv, .bool rg] 105)) wr := by
      have := HBe.out; subst this; simpa using hB
    have r0 := box_cell hBo 0
    have r1 := box_cell hBo 1
    have r2 := box_cell hBo 2
    simp at r0 r1 r2
    have hbw := below_box hBo
    clear hBo
    by_cases hlt : t < n
    · have htl : t < l.length := by have := HL.out; omega
      obtain ⟨b1, o1, rfl, y0, y1, y2⟩ := h.row hlt
      have HLo := hid (fun (e : d = false) => Ch.InSt.low (e ▸ st.out) htl)
      have HSa := hid (fun (e : d = false) => Ch.InSt.same (e ▸ st.out) htl)
      have HHi := hid (fun (e : d = false) => Ch.InSt.high (e ▸ st.out) htl)
      have HOn := hid (fun (e : d = true) => Ch.InSt.on (e ▸ st.out) htl)
      have HOv := hid (fun (e : d = true) => Ch.InSt.over (e ▸ st.out) htl)
      generalize l.getD t Ch.Row.zero = rr at *
      obtain ⟨xk, xv, xg⟩ := rr
      simp only at y0 y1 y2 HLo HSa HHi HOn HOv
      have q0 := keep_cell hbw y0
      have q1 := keep_cell hbw y1
      have q2 := keep_cell hbw y2
      have hit : ((t : Int) < (n : Int)) := by omega
      cases d with
      | false =>
        simp only [Bool.toNat_false, Nat.add_zero] at hp
        have hsum1 : p + 1 ≤ 2097152 := by omega
        have hsum2 : p + 1 + 1 ≤ 2097152 := by omega
        have HLo' := hid (HLo.out rfl)
        have HSa' := hid (HSa.out rfl)
        have HHi' := hid (HHi.out rfl)
        clear HLo HSa HHi HOn HOv st
        rcases Int.lt_trichotomy xk rk with hx | hx | hx
        · have hd : decide (xk ≥ rk) = false := by simp; omega
          have hne : (xk != rk) = true := by simp; omega
          have HS := hid (HLo'.out hx)
          clear HLo' HSa' HHi' hx
          go_wp2
          go_quiet (fail)
          go_wp2
          go_quiet (fail)
          go_wp2_with (at_builtin; go_must (refine wpList_appRs (.tmp 39) (.tmp 44) B (.slice a2 p c2) p S 1 [⟨xk, xv, xg⟩] hsum1 ?_ ?_ ?_ ?_ ?_ ?_ ?_; exact rfl; exact rfl; exact rfl; exact ⟨_, _, rfl, new_row (r := ⟨xk, xv, xg⟩) rfl⟩; exact owns_below own (below_drewN (Below.refl _ _) _ |>.alloc (by simp) _); (focus (simp; omega)); intro a3 c3 w3 own3 b3))
          go_roundw
          case rel => exact ⟨t + 1, p + 1, a3, c3, false, _, by omega, by simp; omega, by go_num, rfl, rfl, HS.out, own3, ((below_drewN hB _).alloc (by simpa using hBs) _).trans b3⟩
          case measure => simp [intOf]; omega
        · have hd : decide (xk ≥ rk) = true := by simp; omega
          have hne : (xk != rk) = false := by simp; omega
          have HS := hid (HSa'.out hx)
          clear HLo' HSa' HHi' hx
          go_wp2
          go_quiet (fail)
          go_wp2_with (at_builtin; go_must (refine wpList_appRs (.tmp 27) (.tmp 29) B (.slice a2 p c2) (p) (S) 1 [⟨rk, rv, rg⟩] hsum1 ?_ ?_ ?_ ?_ ?_ ?_ ?_; exact rfl; exact rfl; exact rfl; exact ⟨_, _, rfl, new_row (r := ⟨rk, rv, rg⟩) rfl⟩; exact owns_below own (below_drewN (Below.refl _ _) _ |>.alloc (by simp) _); (focus (simp; omega)); intro a3 c3 w3 own3 b3))
          have hB3 := ((below_drewN hB _).alloc (by simpa using hBs) _).trans b3
          have hBs3 : B ≤ w3.heap.size := by have := hB3.size; have := HBe.out; simp at *; omega
          have hBo3 : Below (w.alloc (.cells #[.int .i64 rk, .int .i64 rv, .bool rg] 105)).heap.size (w.alloc (.cells #[.int .i64 rk, .int .i64 rv, .bool rg] 105)) w3 := by
            have := HBe.out; subst this; simpa using hB3
          have r0 := box_cell hBo3 0
          have r1 := box_cell hBo3 1
          have r2 := box_cell hBo3 2
          simp at r0 r1 r2
          have hbw3 := below_box hBo3
          clear hBo3
          have q0 := keep_cell hbw3 y0
          have q1 := keep_cell hbw3 y1
          have q2 := keep_cell hbw3 y2
          go_quiet (fail)
          go_wp2
          go_roundw
          case rel => exact ⟨t + 1, p + 1, a3, c3, true, _, by omega, by simp; omega, by go_num, rfl, rfl, HS.out, own3, below_drewN hB3 _⟩
          case measure => simp [intOf]; omega
        · have hd : decide (xk ≥ rk) = true := by simp; omega
          have hne : (xk != rk) = true := by simp; omega
          have HS := hid (HHi'.out hx)
          clear HLo' HSa' HHi' hx
          go_wp2
          go_quiet (fail)
          go_wp2_with (at_builtin; go_must (refine wpList_appRs (.tmp 27) (.tmp 29) B (.slice a2 p c2) (p) (S) 1 [⟨rk, rv, rg⟩] hsum1 ?_ ?_ ?_ ?_ ?_ ?_ ?_; exact rfl; exact rfl; exact rfl; exact ⟨_, _, rfl, new_row (r := ⟨rk, rv, rg⟩) rfl⟩; exact owns_below own (below_drewN (Below.refl _ _) _ |>.alloc (by simp) _); (focus (simp; omega)); intro a3 c3 w3 own3 b3))
          have hB3 := ((below_drewN hB _).alloc (by simpa using hBs) _).trans b3
          have hBs3 : B ≤ w3.heap.size := by have := hB3.size; have := HBe.out; simp at *; omega
          have hBo3 : Below (w.alloc (.cells #[.int .i64 rk, .int .i64 rv, .bool rg] 105)).heap.size (w.alloc (.cells #[.int .i64 rk, .int .i64 rv, .bool rg] 105)) w3 := by
            have := HBe.out; subst this; simpa using hB3
          have r0 := box_cell hBo3 0
          have r1 := box_cell hBo3 1
          have r2 := box_cell hBo3 2
          simp at r0 r1 r2
          have hbw3 := below_box hBo3
          clear hBo3
          have q0 := keep_cell hbw3 y0
          have q1 := keep_cell hbw3 y1
          have q2 := keep_cell hbw3 y2
          go_quiet (fail)
          go_wp2_with (at_builtin; go_must (refine wpList_appRs (.tmp 39) (.tmp 44) B (.slice a3 (p + 1) c3) ((p + 1)) (S ++ [⟨rk, rv, rg⟩]) 1 [⟨xk, xv, xg⟩] hsum2 ?_ ?_ ?_ ?_ ?_ ?_ ?_; exact rfl; exact rfl; exact rfl; exact ⟨_, _, rfl, new_row (r := ⟨xk, xv, xg⟩) rfl⟩; exact owns_below own3 (below_drewN (Below.refl _ _) _ |>.alloc (by simp) _); (focus (simp; omega)); intro a4 c4 w4 own4 b4))
          go_roundw
          case rel => exact ⟨t + 1, p + 1 + 1, a4, c4, true, _, by omega, by simp; omega, by go_num, rfl, rfl, HS.out, own4, ((below_drewN hB3 _).alloc (by simpa using hBs3) _).trans b4⟩
          case measure => simp [intOf]; omega
      | true =>
        simp only [Bool.toNat_true] at hp
        have hsum1 : p + 1 ≤ 2097152 := by omega
        have HOn' := hid (HOn.out rfl)
        have HOv' := hid (HOv.out rfl)
        clear HLo HSa HHi HOn HOv st
        by_cases hx : xk = rk
        · have hne : (xk != rk) = false := by simp; omega
          have HS := hid (HOv'.out hx)
          clear HOn' HOv' hx
          go_wp2
          go_quiet (fail)
          go_wp2
          go_quiet (fail)
          go_wp2
          go_roundw
          case rel => exact ⟨t + 1, p, a2, c2, true, _, by omega, by simp; omega, by go_num, rfl, rfl, HS.out, own, below_drewN hB _⟩
          case measure => simp [intOf]; omega
        · have hne : (xk != rk) = true := by simpa using hx
          have HS := hid (HOn'.out hx)
          clear HOn' HOv' hx
          go_wp2
          go_quiet (fail)
          go_wp2
          go_quiet (fail)
          go_wp2_with (at_builtin; go_must (refine wpList_appRs (.tmp 39) (.tmp 44) B (.slice a2 p c2) (p) (S) 1 [⟨xk, xv, xg⟩] hsum1 ?_ ?_ ?_ ?_ ?_ ?_ ?_; exact rfl; exact rfl; exact rfl; exact ⟨_, _, rfl, new_row (r := ⟨xk, xv, xg⟩) rfl⟩; exact owns_below own (below_drewN (Below.refl _ _) _ |>.alloc (by simp) _); (focus (simp; omega)); intro a3 c3 w3 own3 b3))
          go_roundw
          case rel => exact ⟨t + 1, p + 1, a3, c3, true, _, by omega, by simp; omega, by go_num, rfl, rfl, HS.out, own3, ((below_drewN hB _).alloc (by simpa using hBs) _).trans b3⟩
          case measure => simp [intOf]; omega
    · obtain rfl : t = n := by omega
      have hit : ¬ ((t : Int) < (t : Int)) := by omega
      have HNo := hid (fun (e : d = false) => Ch.InSt.endNo (e ▸ st.out) (by have := HL.out; omega))
      have HYe := hid (fun (e : d = true) => Ch.InSt.endYes (e ▸ st.out) (by have := HL.out; omega))
      have hBw : w.heap.size ≤ B := by have := HBe.out; omega
      cases d with
      | false =>
        simp only [Bool.toNat_false, Nat.add_zero] at hp
        have hsum1 : p + 1 ≤ 2097152 := by omega
        have HN := hid (HNo.out rfl)
        clear HNo HYe st
        go_wp2_with (at_builtin; go_must (refine wpList_appRs (.tmp 48) (.tmp 50) B (.slice a2 p c2) (p) (S) 1 [⟨rk, rv, rg⟩] hsum1 ?_ ?_ ?_ ?_ ?_ ?_ ?_; exact rfl; exact rfl; exact rfl; exact ⟨_, _, rfl, new_row (r := ⟨rk, rv, rg⟩) rfl⟩; exact owns_below own ((Below.refl _ _).alloc (Nat.le_refl _) _); (focus (simp; omega)); intro a3 c3 w3 own3 b3))
        go_ret
        have hBo3 : Below w.heap.size w w3 := ((hbw.alloc hbw.size _)).trans (b3.mono hBw)
        exact ⟨a3, p + 1, c3, rfl, by rw [HN.out]; exact owns_base own3 hBw, hBo3⟩
      | true =>
        have HY := hid (HYe.out rfl)
        clear HNo HYe st
        go_wp2
        go_ret
        exact ⟨a2, p, c2, rfl, by rw [HY.out]; exact owns_base own hBw, hbw⟩
end Go.Proofs.Ythfanfnbjldddaa


/- l3Copy of the model: leaves copied. -/
namespace Go.Proofs.Ythfanfnbjldddaa
open Go.RowKit

set_option maxHeartbeats 4000000 in
theorem specCopy_any (a : Option Addr) (n cap : Nat) (ls : List (List Ch.Row)) (w : World) (h : LvAt w a n ls) (hs : Ch.lvSize ls ≤ 1048576) (hg : ∀ k, k < n → (ls.getD k []).length ≠ 0) :
    Calls Try.prog 112 #[.slice a n cap] w fun e w' => ∃ a' c', e = .returned (.slice a' n c') ∧ OwnLv w' w.heap.size (.slice a' n c') n ls ∧ Below w.heap.size w w' := by
  have HL := h.len
  have hn : n ≤ 1048576 := by unfold Ch.lvSize at hs; have := HL.out; omega
  have o0 := empty_leaves w w.heap.size (Nat.le_refl _)
  have O0 : OwnLv (w.alloc (.cells #[] 107)) w.heap.size (.slice (some ⟨w.heap.size, 0, none⟩) 0 0) 0 [] := ⟨rfl, [], o0, fun i hi => absurd hi (by omega), fun i j x y g _ hx => by simp at hx, fun i x g hx => by simp at hx⟩
  clear o0
  go_enter Try.func112, Try.ntmps112
  go_wp2
  go_loopw [3, 4] (fun q i wr => ∃ (k : Nat) (a' : Option Addr) (c' : Nat), k ≤ n ∧ i = .int .i64 k ∧ q = .slice a' k c' ∧ OwnLv wr w.heap.size (.slice a' k c') k (ls.take k) ∧ Below w.heap.size w wr) (fun _ i _ => n - (intOf i).toNat)
  case atStart => exact ⟨0, _, _, Nat.zero_le _, rfl, rfl, by simpa using O0, (Below.refl _ _).alloc (Nat.le_refl _) _⟩
  case round =>
    clear O0
    obtain ⟨k, a', c', hk, rfl, rfl, own, hB⟩ := hrel
    by_cases hlt : k < n
    · have hkl : k < ls.length := by have := HL.out; omega
      have HS := hid (Ch.lv_leaf hs k)
      have HT := hid (Ch.take_snoc ls [] k hkl)
      have hl0 := hg k hlt
      obtain ⟨b, off, ai, ni, ci, rfl, hc, hr, hni⟩ := h.leaf hlt
      have HRl := hr.rlen
      have hni' : ni ≤ 1048576 := by have := HS.out; have := HRl.out; omega
      have hni0 : 0 < ni := by have := HRl.out; omega
      generalize ls.getD k [] = l at *
      generalize ls.take k = DL at *
      clear HS hl0
      have hcr := keep_cell hB hc
      have hrr := hr.below hB
      have hbl := lt_of_cell hcr
      obtain ⟨bi, oi, rfl, _⟩ := hr.2 (by omega)
      have e0 := empty_rows wr wr.heap.size (Nat.le_refl _)
      have bR : Below wr.heap.size wr (wr.alloc (.cells #[] 105)) := (Below.refl _ _).alloc (Nat.le_refl _) _
      have hr1 := hrr.below bR
      obtain ⟨vs, hV⟩ := own.told
      have hoV := hV.2.1
      have hsum : k + 1 ≤ 2097152 := by omega
      have hsum0 : 0 + ni ≤ 2097152 := by omega
      have bA : ∀ (W : World) o, Below W.heap.size W (W.alloc o) := fun W o => (Below.refl _ _).alloc (Nat.le_refl _) _
      have hBs := hB.size
      go_wp2_with (at_builtin; first | (refine wpList_appRs (.tmp 13) (.tmp 18) wr.heap.size (.slice (some ⟨wr.heap.size, 0, none⟩) 0 0) 0 [] ni l hsum0 ?_ ?_ ?_ ?_ ?_ ?_ ?_; exact rfl; exact rfl; exact rfl; exact ⟨_, _, rfl, hr1⟩; exact e0; (focus (simp; done)); intro a2 c2 w2 own2 b2; have b2' := bR.trans b2; have own2' := owns_below hoV b2'; simp only [Nat.zero_add, List.nil_append] at own2) | (go_must (refine wpList_appLv (.tmp 12) (.tmp 21) w.heap.size (.slice a' k c') k vs 1 [.slice a2 ni c2] hsum (by simp [Value.oneCell']) ?_ ?_ ?_ ?_ ?_ ?_ ?_ (by omega); exact rfl; exact rfl; exact rfl; exact ⟨_, _, rfl, one_leaf rfl⟩; exact owns_below own2' (bA _ _); (focus (have := b2'.size; simp; omega)); intro a3 c3 w3 own3 gr3 at3)))
      go_roundw
      case rel =>
        have hbq := hB.trans (b2'.mono hBs)
        refine ⟨k + 1, a3, c3, by omega, by go_num, rfl, ?_, ?_⟩
        · rw [HT.out]
          refine OwnLv.snoc hV b2' ?_ hBs rfl own3 gr3 at3
          have := HRl.out
          rw [← this]
          exact own2
        · refine (hbq.alloc hbq.size _).grown gr3 (by have := hbq.size; simp; omega) ?_
          intro j hj
          exact (owns_lt hoV j hj).1
      case measure => simp [intOf]; omega
    · obtain rfl : k = n := by omega
      go_wp2
      go_ret
      have e1 := HL.out
      rw [List.take_of_length_le (by omega)] at own
      exact ⟨a', c', rfl, own, hB⟩
end Go.Proofs.Ythfanfnbjldddaa


/- Leaves that are named, not owned; one row as leaves. -/
namespace Go.Proofs.Ythfanfnbjldddaa
open Go.RowKit

/-- Rows that lie behind a list, apart from the block of v. -/
def RefR (w : World) (v : Value) (ai : Option Addr) (ni : Nat) (l : List Ch.Row) : Prop :=
  CellsAt w ai (ni * 3) (rcells l) ∧ ni ≤ 9223372036854775807 ∧ ∀ b off, ai = some ⟨b, off, none⟩ → b < w.heap.size ∧ v.ownBlock ≠ some b
def RefLv (w : World) (B : Nat) (v : Value) (n : Nat) (vs : List Value) (ls : List (List Ch.Row)) : Prop :=
  ls.length = n ∧ w.ownsRow B 107 1 v n vs ∧ ∀ i, i < n → ∃ ai ni ci, vs[i]? = some (.slice ai ni ci) ∧ RefR w v ai ni (ls.getD i [])

theorem CellsAt.grown {w w' : World} {row : Option Nat} {a : Option Addr} {m : Nat} {xs : List Value} (h : CellsAt w a m xs) (hg : w.grownBy w' row) (hne : ∀ b off, a = some ⟨b, off, none⟩ → row ≠ some b) : CellsAt w' a m xs := by
  refine ⟨h.1, fun hm => ?_⟩
  obtain ⟨b, off, ha, hc⟩ := h.2 hm
  refine ⟨b, off, ha, fun i hi => ?_⟩
  have := hc i hi
  have hx : xs[i]? = some (xs[i]'(by rw [h.1]; exact hi)) := by simp
  rw [hx] at this ⊢
  exact grown_cell hg this (hne b off ha)
theorem RefR.move {w W w2 : World} {v v' : Value} {ai : Option Addr} {ni : Nat} {l : List Ch.Row} (h : RefR w v ai ni l) (hb : Below w.heap.size w W) (hg : W.grownBy w2 v.ownBlock) (hat : ∀ g, v'.ownBlock = some g → v.ownBlock = some g ∨ W.heap.size ≤ g) : RefR w2 v' ai ni l := by
  obtain ⟨h1, h2, h3⟩ := h
  refine ⟨(h1.below hb).grown hg (fun b off e => (h3 b off e).2), h2, fun b off e => ⟨?_, fun hv => ?_⟩⟩
  · have := (h3 b off e).1
    have := hb.size
    have := hg.size
    omega
  · have h4 := (h3 b off e).1
    have := hb.size
    rcases hat b hv with h5 | h5
    · exact (h3 b off e).2 h5
    · omega
theorem RefLv.at {w : World} {B : Nat} {a : Option Addr} {n cap : Nat} {vs : List Value} {ls : List (List Ch.Row)} (h : RefLv w B (.slice a n cap) n vs ls) : LvAt w a n ls := by
  obtain ⟨hl, ho, hi⟩ := h
  have hc := owns_cells ho
  rw [Nat.mul_one] at hc
  refine ⟨hl, vs, hc, fun i hlt => ?_⟩
  obtain ⟨ai, ni, ci, h1, h2⟩ := hi i hlt
  exact ⟨ai, ni, ci, h1, h2.1, h2.2.1⟩
theorem RefLv.app {w0 W w2 : World} {B n m : Nat} {v v' : Value} {vs xs : List Value} {ls nl : List (List Ch.Row)} (h : RefLv w0 B v n vs ls) (hb : Below w0.heap.size w0 W)
    (hl : nl.length = xs.length) (hm : m = n + xs.length) (hx : ∀ i, i < xs.length → ∃ w1 ai ni ci, xs[i]? = some (.slice ai ni ci) ∧ Below w1.heap.size w1 W ∧ RefR w1 v ai ni (nl.getD i []))
    (h2 : w2.ownsRow B 107 1 v' m (vs ++ xs)) (hg : W.grownBy w2 v.ownBlock) (hat : ∀ g, v'.ownBlock = some g → v.ownBlock = some g ∨ W.heap.size ≤ g) : RefLv w2 B v' m (vs ++ xs) (ls ++ nl) := by
  subst hm
  obtain ⟨hll, ho, hi⟩ := h
  have hvl : vs.length = n := by have := ho.1; omega
  refine ⟨by simp [hll, hl], h2, fun i hlt => ?_⟩
  by_cases hin : i < n
  · obtain ⟨ai, ni, ci, h1, h3⟩ := hi i hin
    refine ⟨ai, ni, ci, by rw [List.getElem?_append_left (by omega)]; exact h1, ?_⟩
    have e : (ls ++ nl).getD i [] = ls.getD i [] := by simp [List.getD, List.getElem?_append_left (show i < ls.length by omega)]
    rw [e]
    exact h3.move hb hg hat
  · obtain ⟨w1, ai, ni, ci, h1, hb1, h3⟩ := hx (i - n) (by omega)
    refine ⟨ai, ni, ci, by rw [List.getElem?_append_right (by omega), hvl]; exact h1, ?_⟩
    have e : (ls ++ nl).getD i [] = nl.getD (i - n) [] := by
      simp only [List.getD]
      rw [List.getElem?_append_right (by omega), hll]
    rw [e]
    exact h3.move hb1 hg hat
theorem CellsAt.cutL {w : World} {g o n k : Nat} {l : List Ch.Row} (h : CellsAt w (some ⟨g, o, none⟩) (n * 3) (rcells l)) (hk : k ≤ n) : CellsAt w (some ⟨g, o, none⟩) (k * 3) (rcells (l.take k)) := by
  have hl := h.rlen.out
  refine ⟨by rw [rcells_len]; simp; omega, fun hm => ?_⟩
  obtain ⟨b, off, ha, hc⟩ := h.2 (by omega)
  refine ⟨b, off, ha, fun i hi => ?_⟩
  rw [hc i (by omega), ← rcells_take, List.getElem?_take, if_pos hi]
theorem CellsAt.cutR {w : World} {g o n k : Nat} {l : List Ch.Row} (h : CellsAt w (some ⟨g, o, none⟩) (n * 3) (rcells l)) (hk : k ≤ n) : CellsAt w (some ⟨g, o + k * 3, none⟩) ((n - k) * 3) (rcells (l.drop k)) := by
  have hl := h.rlen.out
  refine ⟨by rw [rcells_len]; simp; omega, fun hm => ?_⟩
  obtain ⟨b, off, ha, hc⟩ := h.2 (by omega)
  simp only [Option.some.injEq, Addr.mk.injEq, and_true] at ha
  obtain ⟨rfl, rfl⟩ := ha
  refine ⟨g, o + k * 3, rfl, fun i hi => ?_⟩
  rw [show o + k * 3 + i = o + (k * 3 + i) by omega, hc (k * 3 + i) (by omega), ← rcells_drop, List.getElem?_drop]
theorem two_leaves {w : World} {x y : Value} {t : TypeId} {H : Nat} (hH : H = w.heap.size) : CellsAt (w.alloc (.cells #[x, y] t)) (some ⟨H, 0, none⟩) 2 [x, y] := by
  subst hH
  refine ⟨rfl, fun _ => ⟨_, _, rfl, fun i hi => ?_⟩⟩
  rw [Nat.zero_add]
  have := cell_of_row (w.alloc (.cells #[x, y] t)) _ i _ _ _ (heap_alloc_new w _)
  rw [this]
  simp
/-- One leaf of one row. -/
theorem one_put (W : World) (B : Nat) (rk rv : Int) (rg : Bool) (hB : B ≤ W.heap.size) : OwnLv ((W.alloc (.cells #[.int .i64 rk, .int .i64 rv, .bool rg] 105)).alloc (.cells #[.slice (some ⟨W.heap.size, 0, none⟩) 1 1] 107)) B (.slice (some ⟨W.heap.size + 1, 0, none⟩) 1 1) 1 [[⟨rk, rv, rg⟩]] := by
  have o1 : (W.alloc (.cells #[.int .i64 rk, .int .i64 rv, .bool rg] 105)).ownsRow B 105 3 (.slice (some ⟨W.heap.size, 0, none⟩) 1 1) 1 (rcells [⟨rk, rv, rg⟩]) := World.ownsRow_lit W #[.int .i64 rk, .int .i64 rv, .bool rg] 1 hB (by unfold maxLen; omega) rfl
  have o2 := World.ownsRow_lit (base := B) (e := 107) (size := 1) (W.alloc (.cells #[.int .i64 rk, .int .i64 rv, .bool rg] 105)) #[.slice (some ⟨W.heap.size, 0, none⟩) 1 1] 1 (by simp; omega) (by unfold maxLen; omega) rfl
  rw [show (W.alloc (.cells #[.int .i64 rk, .int .i64 rv, .bool rg] 105)).heap.size = W.heap.size + 1 by simp] at o2
  refine ⟨rfl, [.slice (some ⟨W.heap.size, 0, none⟩) 1 1], o2, fun i hi => ?_, ?_, ?_⟩
  · obtain rfl : i = 0 := by omega
    exact ⟨_, rfl, owns_below o1 ((Below.refl _ _).alloc (Nat.le_refl _) _)⟩
  · intro i j x y g hij hx hy
    have : j < 1 := by
      rcases Nat.lt_or_ge j 1 with h | h
      · exact h
      · rw [List.getElem?_eq_none (by simpa using h)] at hy; cases hy
    omega
  · intro i x g hx hv
    have : i = 0 := by
      rcases Nat.lt_or_ge i 1 with h | h
      · omega
      · rw [List.getElem?_eq_none (by simpa using h)] at hx; cases hx
    subst this
    simp at hx
    subst hx
    simp [Value.ownBlock] at hv ⊢
    omega
end Go.Proofs.Ythfanfnbjldddaa


/- l3Put of the model. -/
namespace Go.Proofs.Ythfanfnbjldddaa
open Go.RowKit

theorem step_appLv {ops : Array Oper} {o : Oper} {a : Act} {w : World} {K : Act → World → Prop} {Q : Exit → Act → World → Prop} {E : Prop} (s x : Operand)
    (B : Nat) (v : Value) (n : Nat) (xs : List Value) (m : Nat) (ys : List Value) (hm : n + m ≤ 2097152) (h1 : ∀ u ∈ ys, u.oneCell' = true)
    (ho : o.op = .call { callee := .builtin .append, args := #[s, x], argTypes := #[24, 24] }) (hgd : o.guard = none)
    (hs : a.eval s = v) (hx : ∃ ad c, a.eval x = .slice (some ad) m c ∧ CellsAt w (some ad) m ys)
    (hown : w.ownsRow B 107 1 v n xs) (hbase : B ≤ w.heap.size)
    (hK : ∀ a' c' w', w'.ownsRow B 107 1 (.slice a' (n + m) c') (n + m) (xs ++ ys) → w.grownBy w' v.ownBlock → (∀ g, (Value.slice a' (n + m) c').ownBlock = some g → v.ownBlock = some g ∨ w.heap.size ≤ g) → K (a.put o.dst (.slice a' (n + m) c')) w') (hm0 : 0 < m) :
    if Region.wanted o (yielded ops a.tmps) = true then Oper.wp Try.prog o a w K Q else E := by
  obtain ⟨ad, c, hx, hc⟩ := hx
  obtain ⟨i0, hi, hz0, hz1, hz2⟩ := info_parts Try.info107
  refine step_append_lies w hgd s x 24 ho B 107 i0 _ 1 24 Try.underlying24 hi hz0 hz1 hz2 rfl (by omega) v n xs hs hown ad m c ys hx (by rw [Nat.mul_one]; exact hc.1) ?_ h1 hm0 (by unfold maxLen; omega) (by omega) hbase _ rfl ?_
  · intro j u hj
    have hjl : j < ys.length := (List.getElem?_eq_some_iff.1 hj).1
    have hl := hc.1
    obtain ⟨b, off, ha, hcc⟩ := hc.2 (by omega)
    simp only [Option.some.injEq] at ha
    subst ha
    have e : (⟨b, off, none⟩ : Addr).add j = ⟨b, off + j, none⟩ := by
      unfold Addr.add
      split
      · next h0 => subst h0; rfl
      · rfl
    rw [e, hcc j (by omega), hj]
  · intro g cp' w' hown' hgrow hat hlt
    refine hK _ _ w' hown' hgrow fun g' hg' => ?_
    simp [Value.ownBlock] at hg'
    subst hg'
    rcases hat with hat | hat
    · exact .inl hat
    · exact .inr (by omega)

set_option linter.unusedSimpArgs false in
set_option maxHeartbeats 8000000 in
theorem specPut_any (a : Option Addr) (n cap : Nat) (ls : List (List Ch.Row)) (rk rv : Int) (rg : Bool) (w : World) (h : LvAt w a n ls) (hs : Ch.lvSize ls ≤ 1048576) (hf : Ch.leavesFault ls = 0) :
    Calls Try.prog 110 #[.slice a n cap, .agg #[.int .i64 rk, .int .i64 rv, .bool rg]] w fun e w' => ∃ a' m c', e = .returned (.slice a' m c') ∧ OwnLv w' w.heap.size (.slice a' m c') m (Ch.put ls ⟨rk, rv, rg⟩) ∧ Below w.heap.size w w' := by
  have HL := h.len
  have HF := hid hf
  have hn : n ≤ 60 := by have := Ch.good_len hf; have := HL.out; omega
  have hg := Ch.good_at HL hf
  have bA : ∀ (W : World) o, Below W.heap.size W (W.alloc o) := fun W o => (Below.refl _ _).alloc (Nat.le_refl _) _
  clear hf
  by_cases hn0 : n = 0
  · subst hn0
    have HP : Hid (Ch.put ls ⟨rk, rv, rg⟩ = [[⟨rk, rv, rg⟩]]) := Ch.put_nil HL.out.symm
    go_enter Try.func110, Try.ntmps110
    go_wp2
    go_ret
    refine ⟨_, 1, _, rfl, ?_, ?_⟩
    · rw [HP.out]
      have := one_put (w.alloc (.cells #[.int .i64 rk, .int .i64 rv, .bool rg] 105)) w.heap.size rk rv rg (by simp)
      simpa using this
    · exact Below.alloc (Below.alloc (Below.alloc (Below.refl _ _) (Nat.le_refl _) _) (by simp) _) (by simp; omega) _
  · obtain ⟨p, hp⟩ : ∃ p, p = Ch.forAt ls rk n := ⟨_, rfl⟩
    have hpn : p < n := by rw [hp]; exact Ch.forAt_lt (by omega)
    have HP : Hid (Ch.putAcc ls ⟨rk, rv, rg⟩ p n = Ch.put ls ⟨rk, rv, rg⟩) := by
      show _ = _
      have e := HL.out
      subst e
      exact Ch.putAcc_all (by omega) hp.symm
    have hw0 : Below w.heap.size w (w.alloc (.cells #[.int .i64 rk, .int .i64 rv, .bool rg] 105)) := bA _ _
    go_enter Try.func110, Try.ntmps110
    go_wp2_with fail
    refine (specFor_any a n cap rk ls _ (h.below hw0) hs hg).mono ?_
    rintro e w1 ⟨rfl, rfl⟩
    rw [← hp]
    clear hp
    go_wp2
    obtain ⟨B, HBe⟩ : ∃ B, Hid (B = w.heap.size + 1) := ⟨_, rfl⟩
    go_loopw [6, 7] (fun q i wr => ∃ (k m : Nat) (a' : Option Addr) (c' : Nat) (vs : List Value), k ≤ n ∧ m ≤ 2 * k ∧ i = .int .i64 k ∧ q = .slice a' m c' ∧ RefLv wr B (.slice a' m c') m vs (Ch.putAcc ls ⟨rk, rv, rg⟩ p k) ∧ Below B (w.alloc (.cells #[.int .i64 rk, .int .i64 rv, .bool rg] 105)) wr) (fun _ i _ => n - (intOf i).toNat)
    case atStart =>
      have e := HBe.out
      subst e
      refine ⟨0, 0, _, _, [], Nat.zero_le _, by omega, rfl, rfl, ⟨rfl, ?_, fun i hi => absurd hi (by omega)⟩, ?_⟩
      · have := empty_leaves (w.alloc (.cells #[.int .i64 rk, .int .i64 rv, .bool rg] 105)) (w.heap.size + 1) (by simp)
        simpa using this
      · exact (Below.refl _ _).alloc (by simp) _
    case round =>
      obtain ⟨k, m, a', c', vs, hk, hmk, rfl, rfl, own, hB⟩ := hrel
      have hBs : B ≤ wr.heap.size := by have := hB.size; have := HBe.out; simp at *; omega
      have hBo : Below (w.alloc (.cells #[.int .i64 rk, .int .i64 rv, .bool rg] 105)).heap.size (w.alloc (.cells #[.int .i64 rk, .int .i64 rv, .bool rg] 105)) wr := by
        have := HBe.out; subst this; simpa using hB
      have r0 := box_cell hBo 0
      have r1 := box_cell hBo 1
      have r2 := box_cell hBo 2
      simp at r0 r1 r2
      have hbw := below_box hBo
      clear hBo
      have hoV := own.2.1
      have hsum1 : m + 1 ≤ 2097152 := by omega
      have hsum2 : m + 2 ≤ 2097152 := by omega
      have hqb : ∀ g, (Value.slice a' m c').ownBlock = some g → B ≤ g := fun g hg' => (owns_lt hoV g hg').1
      by_cases hlt : k < n
      · have hkl : k < ls.length := by have := HL.out; omega
        have HS := hid (Ch.lv_leaf hs k)
        obtain ⟨b, off, ai, ni, ci, rfl, hc, hr, hni⟩ := h.leaf hlt
        have HRl := hr.rlen
        have hni' : ni ≤ 1048576 := by have := HS.out; have := HRl.out; omega
        have hcr := keep_cell hbw hc
        have hbl := lt_of_cell hcr
        have hl0 := hg k hlt
        have hni0 : 0 < ni := by have := HRl.out; omega
        have HNo := hid (fun (e : k ≠ p) => Ch.putAcc_no ls ⟨rk, rv, rg⟩ e)
        have HYe := hid (fun (e : k = p) => by subst e; exact Ch.putAcc_yes ls ⟨rk, rv, rg⟩ k : k = p → Ch.putAcc ls ⟨rk, rv, rg⟩ p (k + 1) = Ch.putAcc ls ⟨rk, rv, rg⟩ p k ++ Ch.halves (Ch.into ⟨rk, rv, rg⟩ (ls.getD k [])))
        generalize ls.getD k [] = l at *
        generalize hDL : Ch.putAcc ls ⟨rk, rv, rg⟩ p k = DL at *
        clear hDL HS hl0
        obtain ⟨bi, oi, rfl, hci⟩ := hr.2 (by omega)
        have hbi : bi < w.heap.size := by
          have h0 := hci 0 (by omega)
          have hx : (rcells l)[0]? = some ((rcells l)[0]'(by rw [hr.1]; omega)) := by simp
          rw [hx] at h0
          exact lt_of_cell h0
        have hrr := hr.below hbw
        have rf : RefR wr (.slice a' m c') (some ⟨bi, oi, none⟩) ni l := ⟨hrr, hni, fun b off e => by
          cases e
          exact ⟨by have := hbw.size; omega, fun e2 => by have := hqb _ e2; have := HBe.out; omega⟩⟩
        clear hci
        by_cases hkp : k = p
        · have HY := hid (HYe.out hkp)
          have hne : ((k : Int) != (p : Int)) = false := by simp; omega
          clear HNo HYe hkp
          go_upto_region 10 with fail
          refine wp_region_noPanic ?_
          refine wp_region_held_drew (S := fun W' => W'.cell? ⟨b, off + k, none⟩ = some (.slice (some ⟨bi, oi, none⟩) ni ci) ∧ W'.cell? ⟨w.heap.size, 0, none⟩ = some (.int .i64 rk) ∧ W'.cell? ⟨w.heap.size, 1, none⟩ = some (.int .i64 rv) ∧ W'.cell? ⟨w.heap.size, 2, none⟩ = some (.bool rg)) (by kernel_rfl) (⟨hcr, r0, r1, r2⟩) (fun hH => ?_)
          refine hTake (i := 0) (v := ?_) rfl (by kernel_rfl) (by kernel_rfl) (by kernel_rfl) (by rfl) ?_ hH ?_
          rotate_left
          · intro W hW; (try dsimp only at hW); go_simp <;> with_reducible rfl
          simp only [Act.put, List.setIfInBounds_toArray, List.set_cons_zero, List.set_cons_succ]
          refine hTake (i := 1) (v := ?_) rfl (by kernel_rfl) (by kernel_rfl) (by kernel_rfl) (by rfl) ?_ hH ?_
          rotate_left
          · intro W hW; (try dsimp only at hW); go_simp <;> with_reducible rfl
          simp only [Act.put, List.setIfInBounds_toArray, List.set_cons_zero, List.set_cons_succ]
          refine hTake (i := 2) (v := ?_) rfl (by kernel_rfl) (by kernel_rfl) (by kernel_rfl) (by rfl) ?_ hH ?_
          rotate_left
          · intro W hW; (try dsimp only at hW); go_simp <;> with_reducible rfl
          simp only [Act.put, List.setIfInBounds_toArray, List.set_cons_zero, List.set_cons_succ]
          refine hTake (i := 3) (v := ?_) rfl (by kernel_rfl) (by kernel_rfl) (by kernel_rfl) (by rfl) ?_ hH ?_
          rotate_left
          · intro W hW; (try dsimp only at hW); go_simp <;> with_reducible rfl
          simp only [Act.put, List.setIfInBounds_toArray, List.set_cons_zero, List.set_cons_succ]
          refine hTake (i := 4) (v := ?_) rfl (by kernel_rfl) (by kernel_rfl) (by kernel_rfl) (by rfl) ?_ hH ?_
          rotate_left
          · intro W hW; (try dsimp only at hW); go_simp <;> with_reducible rfl
          simp only [Act.put, List.setIfInBounds_toArray, List.set_cons_zero, List.set_cons_succ]
          refine hTake (i := 5) (v := ?_) rfl (by kernel_rfl) (by kernel_rfl) (by kernel_rfl) (by rfl) ?_ hH ?_
          rotate_left
          · intro W hW; (try dsimp only at hW); go_simp <;> with_reducible rfl
          simp only [Act.put, List.setIfInBounds_toArray, List.set_cons_zero, List.set_cons_succ]
          refine wpAnyH_ready (rs := [6]) (by kernel_rfl) (by simp) ?_
          refine AllReadyH.cons rfl (fun K hK => ?_) AllReadyH.nil
          go_simp
          refine (specInto_any (some ⟨bi, oi, none⟩) ni ci l rk rv rg wr.drew hrr (by omega)).mono ?_
          rintro e w4 ⟨a4, m4, c4, rfl, own4, b4⟩
          go_wp2_with fail
          refine hK.out _ _ ?_ (fun hH => ?_)
          · exact ⟨keep_cell b4 hH.1, keep_cell b4 hH.2.1, keep_cell b4 hH.2.2.1, keep_cell b4 hH.2.2.2⟩
          clear hK K
          refine hTake (i := 7) (v := ?_) rfl (by kernel_rfl) (by kernel_rfl) (by kernel_rfl) (by rfl) ?_ hH ?_
          rotate_left
          · intro W hW; (try dsimp only at hW); go_simp <;> with_reducible rfl
          simp only [Act.put, List.setIfInBounds_toArray, List.set_cons_zero, List.set_cons_succ]
          refine wpAnyH_done (by kernel_rfl) ?_ _
          refine NoPanic.normal ?_
          clear hH
          have b4' : Below wr.heap.size wr w4 := ⟨b4.os, b4.tape, b4.output, b4.size, b4.block⟩
          have hB4 := hB.trans (b4'.mono hBs)
          have hBs4 : B ≤ w4.heap.size := by have := b4'.size; omega
          have hoV4 := owns_below hoV b4'
          have HM : Hid (m4 = (Ch.into ⟨rk, rv, rg⟩ l).length) := by show _ = _; have := own4.1; rw [rcells_len] at this; omega
          have hm1 : 1 ≤ m4 := by have := HM.out; have := Ch.into_pos ⟨rk, rv, rg⟩ l; omega
          have hm4 : m4 ≤ 1048577 := by have := HM.out; have := Ch.into_len ⟨rk, rv, rg⟩ l; have := HRl.out; omega
          generalize Ch.into ⟨rk, rv, rg⟩ l = il at *
          obtain ⟨g4, rfl⟩ : ∃ g4, a4 = some ⟨g4, 0, none⟩ := by
            rcases own4.2 with ⟨_, h0⟩ | ⟨g', cp, cur, hv, _⟩
            · omega
            · simp only [Value.slice.injEq] at hv
              exact ⟨g', hv.1⟩
          have L4 := owns_bounds own4
          have hc4 := owns_capN own4
          have hcl := owns_cells own4
          have hno : (Value.slice a' m c').ownBlock ≠ some g4 := fun e => by
            have h1 := (owns_lt hoV g4 e).2
            have h2 : wr.heap.size ≤ g4 := L4.1
            omega
          have hlt4 : g4 < w4.heap.size := L4.2
          clear own4 b4 rf hrr hr hc hcr hbl hoV
          by_cases h4 : m4 ≤ 4
          · have HH : Hid (Ch.putAcc ls ⟨rk, rv, rg⟩ p (k + 1) = DL ++ [il]) := by show _ = _; rw [HY.out, Ch.halves, if_pos (by have := HM.out; omega)]
            clear HY
            go_wp2_with (at_builtin; go_must (refine wpList_appLv (.tmp 48) (.tmp 51) B (.slice a' m c') m vs 1 [.slice (some ⟨g4, 0, none⟩) m4 c4] hsum1 (by simp [Value.oneCell']) ?_ ?_ ?_ ?_ ?_ ?_ ?_ (by omega); exact rfl; exact rfl; exact rfl; exact ⟨_, _, rfl, one_leaf rfl⟩; exact owns_below hoV4 (bA _ _); (focus (simp; omega)); intro a3 c3 w3 own3 gr3 at3))
            go_roundw
            case rel =>
              refine ⟨k + 1, m + 1, a3, c3, vs ++ [.slice (some ⟨g4, 0, none⟩) m4 c4], by omega, by omega, by go_num, rfl, ?_, ?_⟩
              · rw [HH.out]
                exact own.app (b4'.alloc b4'.size _) rfl rfl (fun i hi => by
                  obtain rfl : i = 0 := by simpa using hi
                  exact ⟨w4, _, _, _, rfl, bA _ _, hcl, by omega, fun b off e => by cases e; exact ⟨hlt4, hno⟩⟩) own3 gr3 at3
              · exact (hB4.alloc hBs4 _).grown gr3 (by simp; omega) (fun j hj => hqb j hj)
            case measure => simp [intOf]; omega
          · have HH : Hid (Ch.putAcc ls ⟨rk, rv, rg⟩ p (k + 1) = DL ++ [il.take (m4 / 2), il.drop (m4 / 2)]) := by show _ = _; rw [HY.out, Ch.halves, if_neg (by have := HM.out; omega), HM.out]
            have hcL := hcl.cutL (k := m4 / 2) (by omega)
            have hcR := hcl.cutR (k := m4 / 2) (by omega)
            obtain ⟨hf, hhf⟩ : ∃ hf, hf = m4 / 2 := ⟨_, rfl⟩
            have hq : (m4 : Int).tdiv 2 = (hf : Int) := by rw [Int.tdiv_eq_ediv_of_nonneg (by omega)]; omega
            rw [← hhf] at HH hcL hcR
            have hh1 : hf ≤ m4 := by omega
            have hh2 : hf ≤ c4 := by omega
            have hh3 : ¬ c4 = hf := by omega
            have h4' : ¬ (m4 : Int) ≤ 4 := by omega
            clear HY hhf h4 hcl
            rw [Nat.zero_add] at hcR
            go_upto_region 14 with fail
            refine wp_region_noPanic ?_
            refine wp_region_held_drew (S := fun _ => True) (by kernel_rfl) trivial (fun hH => ?_)
            refine hTake (i := 0) (v := ?_) rfl (by kernel_rfl) (by kernel_rfl) (by kernel_rfl) (by rfl) ?_ hH ?_
            rotate_left
            · intro W hW; (try dsimp only at hW); go_simp <;> with_reducible rfl
            simp only [Act.put, List.setIfInBounds_toArray, List.set_cons_zero, List.set_cons_succ]
            refine hTake (i := 1) (v := ?_) rfl (by kernel_rfl) (by kernel_rfl) (by kernel_rfl) (by rfl) ?_ hH ?_
            rotate_left
            · intro W hW; (try dsimp only at hW); go_simp <;> with_reducible rfl
            simp only [Act.put, List.setIfInBounds_toArray, List.set_cons_zero, List.set_cons_succ]
            refine hTake (i := 2) (v := ?_) rfl (by kernel_rfl) (by kernel_rfl) (by kernel_rfl) (by rfl) ?_ hH ?_
            rotate_left
            · intro W hW; (try dsimp only at hW); go_simp <;> with_reducible rfl
            simp only [Act.put, List.setIfInBounds_toArray, List.set_cons_zero, List.set_cons_succ]
            refine hTake (i := 3) (v := ?_) rfl (by kernel_rfl) (by kernel_rfl) (by kernel_rfl) (by rfl) ?_ hH ?_
            rotate_left
            · intro W hW; (try dsimp only at hW); go_simp <;> with_reducible rfl
            simp only [Act.put, List.setIfInBounds_toArray, List.set_cons_zero, List.set_cons_succ]
            refine hTake (i := 4) (v := ?_) rfl (by kernel_rfl) (by kernel_rfl) (by kernel_rfl) (by rfl) ?_ hH ?_
            rotate_left
            · intro W hW; (try dsimp only at hW); go_simp <;> with_reducible rfl
            simp only [Act.put, List.setIfInBounds_toArray, List.set_cons_zero, List.set_cons_succ]
            refine hTake (i := 5) (v := ?_) rfl (by kernel_rfl) (by kernel_rfl) (by kernel_rfl) (by rfl) ?_ hH ?_
            rotate_left
            · intro W hW; (try dsimp only at hW); go_simp <;> with_reducible rfl
            simp only [Act.put, List.setIfInBounds_toArray, List.set_cons_zero, List.set_cons_succ]
            refine hTake (i := 6) (v := ?_) rfl (by kernel_rfl) (by kernel_rfl) (by kernel_rfl) (by rfl) ?_ hH ?_
            rotate_left
            · intro W hW; (try dsimp only at hW); go_simp <;> with_reducible rfl
            simp only [Act.put, List.setIfInBounds_toArray, List.set_cons_zero, List.set_cons_succ]
            refine hTake (i := 7) (v := ?_) rfl (by kernel_rfl) (by kernel_rfl) (by kernel_rfl) (by rfl) ?_ hH ?_
            rotate_left
            · intro W hW; (try dsimp only at hW); go_simp <;> with_reducible rfl
            simp only [Act.put, List.setIfInBounds_toArray, List.set_cons_zero, List.set_cons_succ]
            refine hTake (i := 8) (v := ?_) rfl (by kernel_rfl) (by kernel_rfl) (by kernel_rfl) (by rfl) ?_ hH ?_
            rotate_left
            · intro W hW; (try dsimp only at hW); go_simp <;> with_reducible rfl
            simp only [Act.put, List.setIfInBounds_toArray, List.set_cons_zero, List.set_cons_succ]
            refine wpAnyH_ready (rs := [9]) (by kernel_rfl) (by simp) ?_
            refine AllReadyH.cons rfl (fun K hK => ?_) AllReadyH.nil
            go_simp
            refine hK.out _ _ trivial (fun hH => ?_)
            clear hK K
            refine wpAnyH_ready (rs := [10]) (by kernel_rfl) (by simp) ?_
            refine AllReadyH.cons rfl (fun K hK => ?_) AllReadyH.nil
            refine step_appLv (.tmp 56) (.tmp 65) B (.slice a' m c') m vs 2 [.slice (some ⟨g4, 0, none⟩) hf c4, .slice (some ⟨g4, hf * 3, none⟩) (m4 - hf) (c4 - hf)] hsum2 (by simp [Value.oneCell']) ?_ ?_ ?_ ?_ ?_ ?_ ?_ (by omega)
            · exact rfl
            · exact rfl
            · exact rfl
            · exact ⟨_, _, rfl, two_leaves rfl⟩
            · exact owns_below hoV4 ((Below.refl _ _).drew.alloc (Nat.le_refl _) _)
            · simp; omega
            intro a3 c3 w3 own3 gr3 at3
            refine hK.out _ _ trivial (fun hH => ?_)
            clear hK K
            refine hTake (i := 11) (v := ?_) rfl (by kernel_rfl) (by kernel_rfl) (by kernel_rfl) (by rfl) ?_ hH ?_
            rotate_left
            · intro W hW; (try dsimp only at hW); go_simp <;> with_reducible rfl
            simp only [Act.put, List.setIfInBounds_toArray, List.set_cons_zero, List.set_cons_succ]
            refine wpAnyH_done (by kernel_rfl) ?_ _
            refine NoPanic.normal ?_
            clear hH
            have bD : ∀ o, Below w4.heap.size w4 (w4.drew.alloc o) := fun o => (Below.refl _ _).drew.alloc (Nat.le_refl _) _
            go_wp2
            go_roundw
            case rel =>
              refine ⟨k + 1, m + 2, a3, c3, vs ++ [.slice (some ⟨g4, 0, none⟩) hf c4, .slice (some ⟨g4, hf * 3, none⟩) (m4 - hf) (c4 - hf)], by omega, by omega, by go_num, rfl, ?_, ?_⟩
              · rw [HH.out]
                exact own.app (b4'.drew.alloc b4'.size _) rfl rfl (fun i hi => by
                  rcases (show i = 0 ∨ i = 1 by simp at hi; omega) with rfl | rfl
                  · exact ⟨w4, _, _, _, rfl, bD _, hcL, by omega, fun b off e => by cases e; exact ⟨hlt4, hno⟩⟩
                  · exact ⟨w4, _, _, _, rfl, bD _, hcR, by omega, fun b off e => by cases e; exact ⟨hlt4, hno⟩⟩) own3 gr3 at3
              · exact (hB4.drew.alloc hBs4 _).grown gr3 (by simp; omega) (fun j hj => hqb j hj)
            case measure => simp [intOf]; omega
        · have HN := hid (HNo.out hkp)
          have hne : ((k : Int) != (p : Int)) = true := by simp; omega
          clear HNo HYe hkp
          go_wp2_with (at_builtin; go_must (refine wpList_appLv (.tmp 31) (.tmp 36) B (.slice a' m c') m vs 1 [.slice (some ⟨bi, oi, none⟩) ni ci] hsum1 (by simp [Value.oneCell']) ?_ ?_ ?_ ?_ ?_ ?_ ?_ (by omega); exact rfl; exact rfl; exact rfl; exact ⟨_, _, rfl, one_leaf rfl⟩; exact owns_below hoV (bA _ _); (focus (simp; omega)); intro a3 c3 w3 own3 gr3 at3))
          go_roundw
          case rel =>
            refine ⟨k + 1, m + 1, a3, c3, vs ++ [.slice (some ⟨bi, oi, none⟩) ni ci], by omega, by omega, by go_num, rfl, ?_, ?_⟩
            · rw [HN.out]
              exact own.app (bA _ _) rfl rfl (fun i hi => by
                obtain rfl : i = 0 := by simpa using hi
                exact ⟨wr, _, _, _, rfl, bA _ _, rf⟩) own3 gr3 at3
            · exact (hB.alloc hBs _).grown gr3 (by simp; omega) (fun j hj => hqb j hj)
          case measure => simp [intOf]; omega
      · obtain rfl : k = n := by omega
        have hat := own.at
        rw [HP.out] at hat own
        have hml := own.1
        go_wp2_with fail
        refine (specCopy_any a' m c' (Ch.put ls ⟨rk, rv, rg⟩) wr hat (Ch.put_size HF.out) (fun i hi => Ch.put_full HF.out i (by omega))).mono ?_
        rintro e w5 ⟨a5, c5, rfl, own5, b5⟩
        go_wp2
        go_ret
        exact ⟨a5, m, c5, rfl, own5.base hbw.size, hbw.trans (b5.mono hbw.size)⟩
end Go.Proofs.Ythfanfnbjldddaa


/- PutRow of the model. -/
namespace Go.Proofs.Ythfanfnbjldddaa
open Go.RowKit

theorem Ch.putR_code {ls : List (List Ch.Row)} {r : Ch.Row} (h : (Ch.leavesFault ls != 0) = true) : Ch.putR ls r = (Ch.leavesFault ls, []) := by rw [Ch.putR, if_pos h]
theorem Ch.putR_row {ls : List (List Ch.Row)} {r : Ch.Row} (h : (Ch.leavesFault ls != 0) = false) (hr : (r.fault != 0) = true) : Ch.putR ls r = (r.fault, []) := by rw [Ch.putR, if_neg (by simp [h]), if_pos hr]
theorem Ch.putR_many {ls : List (List Ch.Row)} {r : Ch.Row} (h : (Ch.leavesFault ls != 0) = false) (hr : (r.fault != 0) = false) (hm : 60 < (Ch.put ls r).length) : Ch.putR ls r = (2, []) := by rw [Ch.putR, if_neg (by simp [h]), if_neg (by simp [hr]), if_pos hm]
theorem Ch.putR_ok {ls : List (List Ch.Row)} {r : Ch.Row} (h : (Ch.leavesFault ls != 0) = false) (hr : (r.fault != 0) = false) (hm : ¬ 60 < (Ch.put ls r).length) : Ch.putR ls r = (0, Ch.put ls r) := by rw [Ch.putR, if_neg (by simp [h]), if_neg (by simp [hr]), if_neg hm]

end Go.Proofs.Ythfanfnbjldddaa


/- Plain mathematics of chapter 2 (records and logs): no Go in it. -/
namespace Go.Proofs.Ythfanfnbjldddaa.Ch

structure Rec where
  kd : Int
  tx : Int
  ky : Int
  hd : Bool
  ol : Int
  hs : Bool
  nw : Int
def Rec.zero : Rec := ⟨0, 0, 0, false, 0, false, 0⟩
def sets (k : Int) : Bool := k == 2 || k == 3
def Rec.fault (r : Rec) : Int :=
  if !inB r.kd 1 5 then 1
  else if !inB r.tx 1 999 || sets r.kd && (!inB r.ky 0 99 || !inB r.ol 0 9999 || !inB r.nw 0 9999) then 3
  else if !sets r.kd && (r.ky != 0 || r.hd || r.hs || r.ol != 0 || r.nw != 0) then 1
  else if !r.hd && r.ol != 0 || !r.hs && r.nw != 0 then 1 else 0
def Rec.flags (r : Rec) : Int := (if r.hd then 1 else 0) + (if r.hs then 2 else 0)
def Rec.more (r : Rec) : List Int := [r.ky, r.flags, r.ol / 256, r.ol % 256, r.nw / 256, r.nw % 256]
def Rec.body (r : Rec) : List Int := [r.kd, r.tx / 256, r.tx % 256] ++ (if sets r.kd then r.more else [])
def Rec.bytes (r : Rec) : List Int := withSum r.body
def Rec.len (r : Rec) : Nat := if sets r.kd then 11 else 5
theorem Rec.len_bd (r : Rec) : 5 ≤ r.len ∧ r.len ≤ 11 := by unfold Rec.len; split <;> omega
theorem Rec.bytes_len (r : Rec) : r.bytes.length = r.len := by
  unfold Rec.bytes withSum Rec.body Rec.len
  cases h : sets r.kd <;> simp [Rec.more]
/-- A record without a fault: what its numbers are. -/
structure Rec.Fit (r : Rec) : Prop where
  kd : 1 ≤ r.kd ∧ r.kd ≤ 5
  tx : 1 ≤ r.tx ∧ r.tx ≤ 999
  ky : 0 ≤ r.ky ∧ r.ky ≤ 99
  ol : 0 ≤ r.ol ∧ r.ol ≤ 9999
  nw : 0 ≤ r.nw ∧ r.nw ≤ 9999
  rest : sets r.kd = false → r.ky = 0 ∧ r.hd = false ∧ r.ol = 0 ∧ r.hs = false ∧ r.nw = 0
theorem Rec.fit {r : Rec} (h : r.fault = 0) : r.Fit := by
  obtain ⟨kd, tx, ky, hd, ol, hs, nw⟩ := r
  simp only [Rec.fault] at h
  by_cases h1 : (!inB kd 1 5) = true
  · rw [if_pos h1] at h; omega
  rw [if_neg h1] at h
  by_cases h2 : (!inB tx 1 999 || sets kd && (!inB ky 0 99 || !inB ol 0 9999 || !inB nw 0 9999)) = true
  · rw [if_pos h2] at h; omega
  rw [if_neg h2] at h
  by_cases h3 : (!sets kd && (ky != 0 || hd || hs || ol != 0 || nw != 0)) = true
  · rw [if_pos h3] at h; omega
  clear h
  cases hs' : sets kd
  · simp [hs'] at h1 h2 h3
    simp [inB] at h1 h2
    obtain ⟨⟨⟨⟨a, b⟩, c⟩, d⟩, e⟩ := h3
    subst a b c d e
    exact ⟨⟨h1.1, h1.2⟩, ⟨h2.1, h2.2⟩, by simp, by simp, by simp, fun _ => ⟨rfl, rfl, rfl, rfl, rfl⟩⟩
  · simp [hs', inB] at h1 h2
    obtain ⟨⟨a, b⟩, ⟨⟨c, d⟩, e, f⟩, g, k⟩ := h2
    refine ⟨⟨h1.1, h1.2⟩, ⟨a, b⟩, ⟨c, d⟩, ⟨e, f⟩, ⟨g, k⟩, fun h => ?_⟩
    simp [hs'] at h
theorem Rec.flags_bd (r : Rec) : 0 ≤ r.flags ∧ r.flags ≤ 3 := by
  unfold Rec.flags; cases r.hd <;> cases r.hs <;> simp
theorem Rec.body_bytes {r : Rec} (h : r.Fit) : AllB r.body := by
  obtain ⟨⟨_, _⟩, ⟨_, _⟩, ⟨_, _⟩, ⟨_, _⟩, ⟨_, _⟩, _⟩ := h
  have := r.flags_bd
  intro z hz
  unfold Rec.body at hz
  cases hs : sets r.kd
  · simp [hs] at hz
    rcases hz with rfl | rfl | rfl <;> omega
  · simp [hs, Rec.more] at hz
    rcases hz with rfl | rfl | rfl | rfl | rfl | rfl | rfl | rfl | rfl <;> omega
theorem Rec.all_bytes {r : Rec} (h : r.Fit) : AllB r.bytes := by
  intro z hz
  unfold Rec.bytes withSum at hz
  rcases List.mem_append.1 hz with hz | hz
  · exact Rec.body_bytes h z hz
  · exact sum_bytes _ z hz

/-- What the bytes at the beginning would be. -/
def unp (zs : List Int) : Rec :=
  if sets (zs.getD 0 0) then ⟨zs.getD 0 0, zs.getD 1 0 * 256 + zs.getD 2 0, zs.getD 3 0, zs.getD 4 0 % 2 == 1, zs.getD 5 0 * 256 + zs.getD 6 0, zs.getD 4 0 / 2 % 2 == 1, zs.getD 7 0 * 256 + zs.getD 8 0⟩
  else ⟨zs.getD 0 0, zs.getD 1 0 * 256 + zs.getD 2 0, 0, false, 0, false, 0⟩
/-- The record at the beginning. -/
def first (zs : List Int) : Option Rec := if (unp zs).fault = 0 ∧ (unp zs).bytes <+: zs then some (unp zs) else none
theorem first_some {zs : List Int} {r : Rec} (h : first zs = some r) : r.fault = 0 ∧ r.bytes <+: zs ∧ unp zs = r := by
  unfold first at h
  split at h
  · next hc => cases h; exact ⟨hc.1, hc.2, rfl⟩
  · cases h
theorem first_len {zs : List Int} {r : Rec} (h : first zs = some r) : 5 ≤ r.len ∧ r.len ≤ zs.length := by
  obtain ⟨_, h2, _⟩ := first_some h
  have := h2.length_le
  rw [r.bytes_len] at this
  exact ⟨r.len_bd.1, this⟩
def readsN : Nat → List Int → List Rec
  | 0, _ => []
  | n + 1, zs => match first zs with
    | none => []
    | some r => r :: readsN n (zs.drop r.len)
def reads (zs : List Int) : List Rec := readsN zs.length zs
theorem readsN_none {n : Nat} {zs : List Int} (h : first zs = none) : readsN n zs = [] := by
  cases n with
  | zero => rfl
  | succ n => simp [readsN, h]
theorem readsN_eq (n : Nat) : ∀ (m : Nat) (zs : List Int), zs.length ≤ n → zs.length ≤ m → readsN n zs = readsN m zs := by
  induction n with
  | zero =>
    intro m zs h _
    have : first zs = none := by
      cases hf : first zs with
      | none => rfl
      | some r => have := first_len hf; omega
    rw [readsN_none this, readsN_none this]
  | succ n ih =>
    intro m zs h hm
    cases hf : first zs with
    | none => rw [readsN_none hf, readsN_none hf]
    | some r =>
      have hl := first_len hf
      cases m with
      | zero => omega
      | succ m =>
        simp only [readsN, hf]
        rw [ih m (zs.drop r.len) (by simp; omega) (by simp; omega)]
theorem reads_none {zs : List Int} (h : first zs = none) : reads zs = [] := readsN_none h
theorem reads_some {zs : List Int} {r : Rec} (h : first zs = some r) : reads zs = r :: reads (zs.drop r.len) := by
  unfold reads
  have hl := first_len h
  obtain ⟨n, hn⟩ : ∃ n, zs.length = n + 1 := ⟨zs.length - 1, by omega⟩
  rw [hn]
  simp only [readsN, h]
  rw [readsN_eq n (zs.drop r.len).length (zs.drop r.len) (by simp; omega) (Nat.le_refl _)]
def lenOf (rs : List Rec) : Nat := (rs.map Rec.len).sum
theorem lenOf_nil : lenOf [] = 0 := rfl
theorem lenOf_cons (r : Rec) (rs : List Rec) : lenOf (r :: rs) = r.len + lenOf rs := rfl
theorem lenOf_append (a b : List Rec) : lenOf (a ++ b) = lenOf a + lenOf b := by simp [lenOf]
def used (zs : List Int) : Nat := lenOf (reads zs)
theorem used_none {zs : List Int} (h : first zs = none) : used zs = 0 := by unfold used; rw [reads_none h]; rfl
theorem used_some {zs : List Int} {r : Rec} (h : first zs = some r) : used zs = r.len + used (zs.drop r.len) := by
  unfold used; rw [reads_some h, lenOf_cons]
theorem used_le (zs : List Int) : used zs ≤ zs.length := by
  suffices H : ∀ n zs, List.length zs ≤ n → used zs ≤ zs.length from H _ zs (Nat.le_refl _)
  intro n
  induction n with
  | zero =>
    intro zs h
    cases hf : first zs with
    | none => rw [used_none hf]; omega
    | some r => have := first_len hf; omega
  | succ n ih =>
    intro zs h
    cases hf : first zs with
    | none => rw [used_none hf]; omega
    | some r =>
      have hl := first_len hf
      have := ih (zs.drop r.len) (by simp; omega)
      rw [used_some hf]
      simp at this
      omega
theorem reads_le (zs : List Int) : 5 * (reads zs).length ≤ used zs := by
  unfold used
  generalize reads zs = rs
  induction rs with
  | nil => simp [lenOf]
  | cons r rs ih => rw [lenOf_cons]; have := r.len_bd; simp; omega
/-- Bytes are torn: nothing of a record that would begin there. -/
theorem getD_prefix {a zs : List Int} (h : a <+: zs) (i : Nat) (hi : i < a.length) : zs.getD i 0 = a.getD i 0 := by
  obtain ⟨t, rfl⟩ := h
  simp [List.getD, List.getElem?_append_left hi]
theorem unp_of_bytes {r : Rec} (h : r.fault = 0) {zs : List Int} (hp : r.bytes <+: zs) : unp zs = r := by
  have f := Rec.fit h
  obtain ⟨kd, tx, ky, hd, ol, hs, nw⟩ := r
  obtain ⟨⟨k0, k1⟩, ⟨t0, t1⟩, ⟨y0, y1⟩, ⟨o0, o1⟩, ⟨n0, n1⟩, rest⟩ := f
  simp only at k0 k1 t0 t1 y0 y1 o0 o1 n0 n1 rest
  have hl := Rec.bytes_len ⟨kd, tx, ky, hd, ol, hs, nw⟩
  have h5 := (Rec.len_bd ⟨kd, tx, ky, hd, ol, hs, nw⟩).1
  have g0 := getD_prefix hp 0 (by omega)
  have g1 := getD_prefix hp 1 (by omega)
  have g2 := getD_prefix hp 2 (by omega)
  have e0 : (Rec.bytes ⟨kd, tx, ky, hd, ol, hs, nw⟩).getD 0 0 = kd := rfl
  have e1 : (Rec.bytes ⟨kd, tx, ky, hd, ol, hs, nw⟩).getD 1 0 = tx / 256 := rfl
  have e2 : (Rec.bytes ⟨kd, tx, ky, hd, ol, hs, nw⟩).getD 2 0 = tx % 256 := rfl
  rw [e0] at g0
  rw [e1] at g1
  rw [e2] at g2
  unfold unp
  rw [g0, g1, g2]
  cases hset : sets kd
  · obtain ⟨rfl, rfl, rfl, rfl, rfl⟩ := rest hset
    simp
    omega
  · have hl11 : (Rec.bytes ⟨kd, tx, ky, hd, ol, hs, nw⟩).length = 11 := by rw [hl]; simp [Rec.len, hset]
    have eb : Rec.bytes ⟨kd, tx, ky, hd, ol, hs, nw⟩ = withSum [kd, tx / 256, tx % 256, ky, Rec.flags ⟨kd, tx, ky, hd, ol, hs, nw⟩, ol / 256, ol % 256, nw / 256, nw % 256] := by
      simp [Rec.bytes, Rec.body, hset, Rec.more]
    have g3 := getD_prefix hp 3 (by omega)
    have g4 := getD_prefix hp 4 (by omega)
    have g5 := getD_prefix hp 5 (by omega)
    have g6 := getD_prefix hp 6 (by omega)
    have g7 := getD_prefix hp 7 (by omega)
    have g8 := getD_prefix hp 8 (by omega)
    rw [eb] at g3 g4 g5 g6 g7 g8
    simp [withSum] at g3 g4 g5 g6 g7 g8
    have t : tx / 256 * 256 + tx % 256 = tx := by omega
    have o : ol / 256 * 256 + ol % 256 = ol := by omega
    have n : nw / 256 * 256 + nw % 256 = nw := by omega
    simp [List.getD, g3, g4, g5, g6, g7, g8, t, o, n, Rec.flags]
    cases hd <;> cases hs <;> simp
theorem first_of_bytes {r : Rec} (h : r.fault = 0) {zs : List Int} (hp : r.bytes <+: zs) : first zs = some r := by
  have e := unp_of_bytes h hp
  unfold first
  rw [e, if_pos ⟨h, hp⟩]
theorem first_append {zs : List Int} {r : Rec} (h : first zs = some r) (t : List Int) : first (zs ++ t) = some r := by
  obtain ⟨h1, h2, _⟩ := first_some h
  exact first_of_bytes h1 (h2.trans (List.prefix_append zs t))
theorem reads_append : ∀ (n : Nat) (zs t : List Int), zs.length ≤ n → used zs = zs.length → reads (zs ++ t) = reads zs ++ reads t := by
  intro n
  induction n with
  | zero =>
    intro zs t h _
    have : zs = [] := List.length_eq_zero_iff.1 (by omega)
    subst this
    have : reads [] = [] := rfl
    rw [this]; simp
  | succ n ih =>
    intro zs t h hu
    cases hf : first zs with
    | none =>
      rw [used_none hf] at hu
      have : zs = [] := List.length_eq_zero_iff.1 (by omega)
      subst this
      have : reads [] = [] := rfl
      rw [this]; simp
    | some r =>
      have hl := first_len hf
      rw [used_some hf] at hu
      rw [reads_some (first_append hf t), reads_some hf]
      have e : (zs ++ t).drop r.len = zs.drop r.len ++ t := by
        rw [List.drop_append]
        simp [show r.len - zs.length = 0 by omega]
      rw [e, ih (zs.drop r.len) t (by simp; omega) (by simp; omega)]
      rfl
theorem reads_bytes {r : Rec} (h : r.fault = 0) (t : List Int) : reads (r.bytes ++ t) = r :: reads t := by
  have := first_of_bytes h (List.prefix_append r.bytes t)
  rw [reads_some this, ← r.bytes_len]
  simp
def walFault (s l : List Int) : Int := if 4000 < s.length + l.length then 2 else if used s ≠ s.length ∨ used l ≠ l.length then 5 else 0
end Go.Proofs.Ythfanfnbjldddaa.Ch


/- Plain facts of SetValue. -/
namespace Go.Proofs.Ythfanfnbjldddaa

theorem Ch.into_same {r : Ch.Row} {l : List Ch.Row} (hp : l.Pairwise (fun a b => a.k < b.k)) (hm : ∃ x ∈ l, x.k = r.k) : (Ch.into r l).length = l.length := by
  induction l with
  | nil => obtain ⟨x, hx, _⟩ := hm; cases hx
  | cons y l ih =>
    rw [List.pairwise_cons] at hp
    unfold Ch.into
    obtain ⟨x, hx, hk⟩ := hm
    by_cases hy : y.k < r.k
    · rw [if_pos hy]
      rcases List.mem_cons.1 hx with rfl | hx
      · omega
      · simp [ih hp.2 ⟨x, hx, hk⟩]
    · rw [if_neg hy]
      have hyk : y.k = r.k := by
        rcases List.mem_cons.1 hx with rfl | hx
        · exact hk
        · have := hp.1 x hx; omega
      have h1 : Ch.notK r.k y = false := by simp [Ch.notK, hyk]
      have h2 : l.filter (Ch.notK r.k) = l := List.filter_eq_self.2 fun z hz => by
        have := hp.1 z hz
        simp [Ch.notK]; omega
      rw [List.filter_cons_of_neg (by rw [h1]; exact Bool.false_ne_true), h2]
      simp
theorem Ch.into_grow (r : Ch.Row) (l : List Ch.Row) : (Ch.into r l).length ≤ l.length + 1 := by
  induction l with
  | nil => simp [Ch.into]
  | cons y l ih =>
    unfold Ch.into
    split
    · simp; exact ih
    · have := List.length_filter_le (Ch.notK r.k) (y :: l)
      simp at this ⊢; exact this

theorem Ch.flat_len3 (ls : List (List Ch.Row)) (i : Nat) (h : i < ls.length) (m : List (List Ch.Row)) : (ls.take i ++ m ++ ls.drop (i + 1)).flatten.length + (ls.getD i []).length = ls.flatten.length + m.flatten.length := by
  have e : ls = ls.take i ++ [ls.getD i []] ++ ls.drop (i + 1) := by
    rw [← Ch.take_snoc ls [] i h, List.take_append_drop]
  have : ls.flatten.length = (ls.take i).flatten.length + (ls.getD i []).length + (ls.drop (i + 1)).flatten.length := by
    conv => lhs; rw [e]
    simp
    omega
  simp at this ⊢
  omega

/-- A row that is there is put in its place: no leaf comes to it. -/
theorem Ch.put_stays {ls : List (List Ch.Row)} (hg : Ch.leavesFault ls = 0) (r : Ch.Row) (hf : (Ch.findR ls r.k).isSome = true) : (Ch.put ls r).length = ls.length := by
  obtain ⟨x, hx⟩ := Option.isSome_iff_exists.1 hf
  unfold Ch.findR at hx
  have hxm := List.mem_of_find?_eq_some hx
  have hxk : x.k = r.k := by have := List.find?_some hx; simpa using this
  obtain ⟨_, h4, _, hp⟩ := (Ch.good_iff ls).1 hg
  have hl := Ch.into_same (r := r) hp ⟨x, hxm, hxk⟩
  rw [← Ch.put_flat hg] at hl
  have hne : ls.length ≠ 0 := by
    intro h0
    have : ls = [] := List.eq_nil_of_length_eq_zero h0
    subst this
    simp at hxm
  have hfi : Ch.forAt ls r.k ls.length < ls.length := Ch.forAt_lt (by omega)
  unfold Ch.put at hl ⊢
  rw [if_neg hne] at hl ⊢
  generalize Ch.forAt ls r.k ls.length = i at *
  have h3 := Ch.flat_len3 ls i hfi (Ch.halves (Ch.into r (ls.getD i [])))
  rw [Ch.halves_flat] at h3
  have hi4 : (ls.getD i []).length ≤ 4 := (h4 (ls.getD i []) (by simp [List.getD, hfi])).2
  have hlen : (Ch.into r (ls.getD i [])).length ≤ 4 := by omega
  unfold Ch.halves
  rw [if_pos hlen]
  simp
  omega

/-- What is asked ahead of a change. -/
def Ch.setF (ls : List (List Ch.Row)) (tx : Int) (bs : List Ch.Bf) : Int := if Ch.leavesFault ls != 0 then Ch.leavesFault ls else if Ch.inB tx 1 999 then Ch.befFault bs else 3
theorem Ch.bef_single (b : Ch.Bf) : Ch.befFault [b] = b.fault := by
  unfold Ch.befFault
  rw [if_neg (by simp)]
  unfold Ch.befOne
  cases h : (b.fault != 0)
  · have : b.fault = 0 := by simpa using h
    rw [this]; rfl
  · simp
/-- The leaves behind a change: a code, and the leaves. -/
def Ch.setLs (ls : List (List Ch.Row)) (key : Int) (has : Bool) (v : Int) : Int × List (List Ch.Row) :=
  if has then (if 60 < (Ch.put ls ⟨key, v, false⟩).length then (2, []) else (0, Ch.put ls ⟨key, v, false⟩))
  else if (Ch.findR ls key).isSome then (0, Ch.put ls ⟨key, 0, true⟩) else (0, ls)
/-- The record of a change. -/
def Ch.setRec (kd : Int) (ls : List (List Ch.Row)) (tx key : Int) (has : Bool) (v : Int) : Ch.Rec := ⟨kd, tx, key, (Ch.bf key (Ch.has ls key)).h, (Ch.bf key (Ch.has ls key)).v, has, v⟩
/-- What SetValue answers. -/
def Ch.setR (ls : List (List Ch.Row)) (tx key : Int) (has : Bool) (v : Int) : Int × List (List Ch.Row) × List Ch.Rec :=
  if Ch.setF ls tx [⟨key, has, v⟩] != 0 then (Ch.setF ls tx [⟨key, has, v⟩], [], []) else
    if (Ch.setLs ls key has v).1 != 0 then ((Ch.setLs ls key has v).1, [], []) else (0, (Ch.setLs ls key has v).2, [Ch.setRec 2 ls tx key has v])
theorem Ch.setR_code {ls : List (List Ch.Row)} {tx key v c : Int} {has : Bool} (h : Ch.setF ls tx [⟨key, has, v⟩] = c) (hc : (c != 0) = true) : Ch.setR ls tx key has v = (c, [], []) := by
  rw [Ch.setR, h, if_pos hc]
theorem Ch.setR_many {ls : List (List Ch.Row)} {tx key v c : Int} {has : Bool} (h : Ch.setF ls tx [⟨key, has, v⟩] = 0) (hs : (Ch.setLs ls key has v).1 = c) (hc : (c != 0) = true) : Ch.setR ls tx key has v = (c, [], []) := by
  rw [Ch.setR, h, if_neg (by decide), hs, if_pos hc]
theorem Ch.setR_ok {ls : List (List Ch.Row)} {tx key v : Int} {has : Bool} (h : Ch.setF ls tx [⟨key, has, v⟩] = 0) (hs : (Ch.setLs ls key has v).1 = 0) : Ch.setR ls tx key has v = (0, (Ch.setLs ls key has v).2, [Ch.setRec 2 ls tx key has v]) := by
  rw [Ch.setR, h, if_neg (by decide), hs, if_neg (by decide)]
/-- Where nothing is at fault. -/
theorem Ch.setF_zero {ls : List (List Ch.Row)} {tx key v : Int} {has : Bool} (h : Ch.setF ls tx [⟨key, has, v⟩] = 0) : Ch.leavesFault ls = 0 ∧ Ch.inB tx 1 999 = true ∧ Ch.inB key 0 99 = true ∧ Ch.inB v 0 9999 = true ∧ (has = false → v = 0) := by
  unfold Ch.setF at h
  rw [Ch.bef_single] at h
  by_cases h1 : (Ch.leavesFault ls != 0) = true
  · rw [if_pos h1] at h; rw [h] at h1; cases h1
  · rw [if_neg h1] at h
    by_cases h2 : Ch.inB tx 1 999 = true
    · rw [if_pos h2] at h
      unfold Ch.Bf.fault at h
      by_cases h3 : (!Ch.inB key 0 99 || !Ch.inB v 0 9999) = true
      · rw [if_pos h3] at h; cases h
      · rw [if_neg h3] at h
        by_cases h4 : (!has && v != 0) = true
        · rw [if_pos h4] at h; cases h
        · simp only [Bool.or_eq_true, Bool.not_eq_true', not_or, Bool.not_eq_false] at h3
          refine ⟨by simpa using h1, h2, h3.1, h3.2, fun hh => ?_⟩
          subst hh
          simpa using h4
    · rw [if_neg h2] at h; cases h
theorem Ch.asked_of {ls : List (List Ch.Row)} {key : Int} (hg : Ch.leavesFault ls = 0) (hk : Ch.inB key 0 99 = true) : Ch.asked ls key = 0 := by
  unfold Ch.asked
  rw [hg, hk]; rfl
theorem Ch.row_fine {key v : Int} (hk : Ch.inB key 0 99 = true) (hv : Ch.inB v 0 9999 = true) : (⟨key, v, false⟩ : Ch.Row).fault = 0 := by
  unfold Ch.Row.fault Ch.rowFault
  simp [hk, hv]
theorem Ch.ghost_fine {key : Int} (hk : Ch.inB key 0 99 = true) : (⟨key, 0, true⟩ : Ch.Row).fault = 0 := by
  unfold Ch.Row.fault Ch.rowFault
  have h0 : Ch.inB 0 0 9999 = true := by decide
  simp [hk, h0]
theorem Ch.setLs_has {ls : List (List Ch.Row)} {key v : Int} (hg : Ch.leavesFault ls = 0) (hk : Ch.inB key 0 99 = true) (hv : Ch.inB v 0 9999 = true) : Ch.setLs ls key true v = Ch.putR ls ⟨key, v, false⟩ := by
  unfold Ch.setLs Ch.putR
  rw [if_pos rfl, hg, Ch.row_fine hk hv]
  rfl
theorem Ch.setLs_ghost {ls : List (List Ch.Row)} {key v : Int} (hg : Ch.leavesFault ls = 0) (hk : Ch.inB key 0 99 = true) (hf : (Ch.findR ls key).isSome = true) : Ch.setLs ls key false v = Ch.putR ls ⟨key, 0, true⟩ := by
  unfold Ch.setLs Ch.putR
  rw [hg, Ch.ghost_fine hk, hf]
  have h1 := Ch.put_stays hg ⟨key, 0, true⟩ hf
  have h2 := ((Ch.good_iff ls).1 hg).1
  rw [h1, if_neg (show ¬ 60 < ls.length by omega)]
  rfl
theorem Ch.setLs_none {ls : List (List Ch.Row)} {key v : Int} (hf : Ch.findR ls key = none) : Ch.setLs ls key false v = (0, ls) := by
  unfold Ch.setLs
  rw [hf]; rfl
theorem Ch.good_size {ls : List (List Ch.Row)} (hg : Ch.leavesFault ls = 0) : Ch.lvSize ls ≤ 1048576 := by
  obtain ⟨h1, h2, _, _⟩ := (Ch.good_iff ls).1 hg
  have : ∀ (xs : List (List Ch.Row)), (∀ l ∈ xs, l.length ≤ 4) → (xs.map List.length).sum ≤ 4 * xs.length := by
    intro xs
    induction xs with
    | nil => intro _; simp
    | cons x xs ih =>
      intro h
      have := ih (fun l hl => h l (List.mem_cons_of_mem _ hl))
      have := h x (List.mem_cons_self ..)
      simp; omega
  have := this ls (fun l hl => (h2 l hl).2)
  unfold Ch.lvSize
  omega
theorem Ch.setLs_good {ls : List (List Ch.Row)} {tx key v : Int} {has : Bool} (h : Ch.setF ls tx [⟨key, has, v⟩] = 0) (hs : (Ch.setLs ls key has v).1 = 0) : Ch.leavesFault (Ch.setLs ls key has v).2 = 0 := by
  obtain ⟨hg, _, hk, hv, _⟩ := Ch.setF_zero h
  cases has
  · cases hf : Ch.findR ls key with
    | none => rw [Ch.setLs_none hf]; exact hg
    | some r =>
      have hi : (Ch.findR ls key).isSome = true := by rw [hf]; rfl
      have h1 := Ch.put_stays hg ⟨key, 0, true⟩ hi
      have h2 := ((Ch.good_iff ls).1 hg).1
      have e : Ch.setLs ls key false v = (0, Ch.put ls ⟨key, 0, true⟩) := by unfold Ch.setLs; rw [hi]; rfl
      rw [e]
      exact Ch.put_good hg (Ch.ghost_fine hk) (by omega)
  · unfold Ch.setLs at hs ⊢
    rw [if_pos rfl] at hs ⊢
    by_cases hm : 60 < (Ch.put ls ⟨key, v, false⟩).length
    · rw [if_pos hm] at hs; cases hs
    · rw [if_neg hm]
      exact Ch.put_good hg (Ch.row_fine hk hv) (by omega)
theorem Ch.setR_small {ls : List (List Ch.Row)} {tx key v : Int} {has : Bool} : Ch.lvSize (Ch.setR ls tx key has v).2.1 ≤ 1048576 ∧ (Ch.setR ls tx key has v).2.2.length ≤ 1 := by
  by_cases h : Ch.setF ls tx [⟨key, has, v⟩] = 0
  · by_cases hs : (Ch.setLs ls key has v).1 = 0
    · rw [Ch.setR_ok h hs]
      exact ⟨Ch.good_size (Ch.setLs_good h hs), by simp⟩
    · rw [Ch.setR_many h rfl (by simpa using hs)]
      exact ⟨by simp [Ch.lvSize], by simp⟩
  · rw [Ch.setR_code rfl (by simpa using h)]
    exact ⟨by simp [Ch.lvSize], by simp⟩
end Go.Proofs.Ythfanfnbjldddaa


/- Plain facts of UndoAll. -/
namespace Go.Proofs.Ythfanfnbjldddaa

/-- One step back: a code stands. -/
def Ch.backOne (tx : Int) (st : Int × List (List Ch.Row) × List Ch.Rec) (b : Ch.Bf) : Int × List (List Ch.Row) × List Ch.Rec :=
  if st.1 != 0 then st else
    if (Ch.setR st.2.1 tx b.k b.h b.v).1 != 0 then ((Ch.setR st.2.1 tx b.k b.h b.v).1, [], []) else
      (0, (Ch.setR st.2.1 tx b.k b.h b.v).2.1, st.2.2 ++ [Ch.setRec 3 st.2.1 tx b.k b.h b.v])
/-- From the last one to the first. -/
def Ch.backAll (tx : Int) (ls : List (List Ch.Row)) (bs : List Ch.Bf) : Int × List (List Ch.Row) × List Ch.Rec := bs.foldr (fun b st => Ch.backOne tx st b) (0, ls, [])
def Ch.undoR (ls : List (List Ch.Row)) (tx : Int) (bs : List Ch.Bf) : Int × List (List Ch.Row) × List Ch.Rec :=
  if Ch.setF ls tx bs != 0 then (Ch.setF ls tx bs, [], []) else Ch.backAll tx ls bs
theorem Ch.back_code {tx c : Int} {ls : List (List Ch.Row)} {rs : List Ch.Rec} {b : Ch.Bf} (h : (c != 0) = true) : Ch.backOne tx (c, ls, rs) b = (c, ls, rs) := by
  unfold Ch.backOne; rw [if_pos h]
theorem Ch.back_many {tx c : Int} {ls : List (List Ch.Row)} {rs : List Ch.Rec} {b : Ch.Bf} (hs : (Ch.setR ls tx b.k b.h b.v).1 = c) (h : (c != 0) = true) : Ch.backOne tx (0, ls, rs) b = (c, [], []) := by
  unfold Ch.backOne; simp only; rw [if_neg (by decide), hs, if_pos h]
theorem Ch.back_ok {tx : Int} {ls : List (List Ch.Row)} {rs : List Ch.Rec} {b : Ch.Bf} (hs : (Ch.setR ls tx b.k b.h b.v).1 = 0) : Ch.backOne tx (0, ls, rs) b = (0, (Ch.setR ls tx b.k b.h b.v).2.1, rs ++ [Ch.setRec 3 ls tx b.k b.h b.v]) := by
  unfold Ch.backOne; simp only; rw [if_neg (by decide), hs, if_neg (by decide)]
theorem Ch.back_end {tx : Int} {ls : List (List Ch.Row)} {bs : List Ch.Bf} {k : Nat} (h : bs.length ≤ k) : Ch.backAll tx ls (bs.drop k) = (0, ls, []) := by
  rw [List.drop_of_length_le h]; rfl
theorem Ch.back_next {tx : Int} {ls : List (List Ch.Row)} {bs : List Ch.Bf} {k : Nat} (h : k < bs.length) : Ch.backAll tx ls (bs.drop k) = Ch.backOne tx (Ch.backAll tx ls (bs.drop (k + 1))) (bs.getD k Ch.Bf.zero) := by
  rw [Ch.bef_drop h]; rfl
/-- What a step keeps: leaves without a fault, few records. -/
theorem Ch.back_keeps {tx : Int} {ls : List (List Ch.Row)} (hg : Ch.leavesFault ls = 0) (bs : List Ch.Bf) : Ch.lvSize (Ch.backAll tx ls bs).2.1 ≤ 1048576 ∧ (Ch.backAll tx ls bs).2.2.length ≤ bs.length ∧ ((Ch.backAll tx ls bs).1 = 0 → Ch.leavesFault (Ch.backAll tx ls bs).2.1 = 0) := by
  induction bs with
  | nil => exact ⟨Ch.good_size hg, by simp [Ch.backAll], fun _ => hg⟩
  | cons b bs ih =>
    have e : Ch.backAll tx ls (b :: bs) = Ch.backOne tx (Ch.backAll tx ls bs) b := rfl
    rw [e]
    obtain ⟨h1, h2, h3⟩ := ih
    generalize Ch.backAll tx ls bs = st at *
    obtain ⟨c, l, r⟩ := st
    simp only at h1 h2 h3
    by_cases hc : c = 0
    · subst hc
      by_cases hs : (Ch.setR l tx b.k b.h b.v).1 = 0
      · rw [Ch.back_ok hs]
        have hz := Ch.setR_small (ls := l) (tx := tx) (key := b.k) (v := b.v) (has := b.h)
        refine ⟨hz.1, by simp; omega, fun _ => ?_⟩
        by_cases hf : Ch.setF l tx [⟨b.k, b.h, b.v⟩] = 0
        · by_cases hm : (Ch.setLs l b.k b.h b.v).1 = 0
          · rw [Ch.setR_ok hf hm]; exact Ch.setLs_good hf hm
          · rw [Ch.setR_many hf rfl (by simpa using hm)] at hs; exact absurd hs hm
        · rw [Ch.setR_code rfl (by simpa using hf)] at hs; exact absurd hs hf
      · rw [Ch.back_many rfl (by simpa using hs)]
        exact ⟨by simp [Ch.lvSize], by simp, fun h => absurd h hs⟩
    · rw [Ch.back_code (by simpa using hc)]
      exact ⟨h1, by simp; omega, h3⟩
theorem Ch.undoR_code {ls : List (List Ch.Row)} {tx c : Int} {bs : List Ch.Bf} (h : Ch.setF ls tx bs = c) (hc : (c != 0) = true) : Ch.undoR ls tx bs = (c, [], []) := by
  rw [Ch.undoR, h, if_pos hc]
theorem Ch.undoR_ok {ls : List (List Ch.Row)} {tx : Int} {bs : List Ch.Bf} (h : Ch.setF ls tx bs = 0) : Ch.undoR ls tx bs = Ch.backAll tx ls bs := by
  rw [Ch.undoR, h, if_neg (by decide)]
/-- The record of a step is that of the change, as one that goes back. -/
theorem Ch.setR_rec {ls : List (List Ch.Row)} {tx key v : Int} {has : Bool} (h : (Ch.setR ls tx key has v).1 = 0) : (Ch.setR ls tx key has v).2.2 = [Ch.setRec 2 ls tx key has v] := by
  by_cases hf : Ch.setF ls tx [⟨key, has, v⟩] = 0
  · by_cases hm : (Ch.setLs ls key has v).1 = 0
    · rw [Ch.setR_ok hf hm]
    · rw [Ch.setR_many hf rfl (by simpa using hm)] at h; exact absurd h hm
  · rw [Ch.setR_code rfl (by simpa using hf)] at h; exact absurd h hf
end Go.Proofs.Ythfanfnbjldddaa


/- Plain facts of FnSets and FnUndos: what a key has behind a change, and behind what is taken back. -/
namespace Go.Proofs.Ythfanfnbjldddaa.Ch

theorem has_set {ls : List (List Row)} {tx key v : Int} {h : Bool} (hf : setF ls tx [⟨key, h, v⟩] = 0) (hs : (setLs ls key h v).1 = 0) (k : Int) :
    Ch.has (setLs ls key h v).2 k = if k = key then (if h then some v else none) else Ch.has ls k := by
  obtain ⟨hg, _, hk, hv, h0⟩ := setF_zero hf
  cases h
  · cases hfr : findR ls key with
    | none =>
      rw [setLs_none hfr]
      by_cases hkk : k = key
      · subst hkk; rw [if_pos rfl]; simp [Ch.has, hfr]
      · rw [if_neg hkk]
    | some r =>
      have e : setLs ls key false v = (0, put ls ⟨key, 0, true⟩) := by unfold setLs; rw [hfr]; rfl
      rw [e]
      by_cases hkk : k = key
      · subst hkk
        have := put_find (r := ⟨k, 0, true⟩) hg
        simp only at this
        rw [if_pos rfl]
        simp [Ch.has, this]
      · rw [if_neg hkk]
        unfold Ch.has
        rw [put_find_other hg hkk]
  · have e : setLs ls key true v = (0, put ls ⟨key, v, false⟩) := by
      unfold setLs at hs ⊢
      rw [if_pos rfl] at hs ⊢
      by_cases hm : 60 < (put ls ⟨key, v, false⟩).length
      · rw [if_pos hm] at hs; cases hs
      · rw [if_neg hm]
    rw [e]
    by_cases hkk : k = key
    · subst hkk
      have := put_find (r := ⟨k, v, false⟩) hg
      simp only at this
      rw [if_pos rfl]
      simp [Ch.has, this]
    · rw [if_neg hkk]
      unfold Ch.has
      rw [put_find_other hg hkk]
/-- A key that has a row has one behind a change. -/
theorem find_set {ls : List (List Row)} {tx key v : Int} {h : Bool} (hf : setF ls tx [⟨key, h, v⟩] = 0) (hs : (setLs ls key h v).1 = 0) (k : Int) (hx : (findR ls k).isSome = true) : (findR (setLs ls key h v).2 k).isSome = true := by
  obtain ⟨hg, _, hk, hv, h0⟩ := setF_zero hf
  cases h
  · cases hfr : findR ls key with
    | none => rw [setLs_none hfr]; exact hx
    | some r =>
      have e : setLs ls key false v = (0, put ls ⟨key, 0, true⟩) := by unfold setLs; rw [hfr]; rfl
      rw [e]
      by_cases hkk : k = key
      · subst hkk
        have := put_find (r := ⟨k, 0, true⟩) hg
        simp only at this
        simp [this]
      · simp only; rw [put_find_other hg hkk]; exact hx
  · have e : setLs ls key true v = (0, put ls ⟨key, v, false⟩) := by
      unfold setLs at hs ⊢
      rw [if_pos rfl] at hs ⊢
      by_cases hm : 60 < (put ls ⟨key, v, false⟩).length
      · rw [if_pos hm] at hs; cases hs
      · rw [if_neg hm]
    rw [e]
    by_cases hkk : k = key
    · subst hkk
      have := put_find (r := ⟨k, v, false⟩) hg
      simp only at this
      simp [this]
    · simp only; rw [put_find_other hg hkk]; exact hx
theorem has_find {ls : List (List Row)} {key v : Int} (h : Ch.has ls key = some v) : (findR ls key).isSome = true := by
  unfold Ch.has at h
  cases hf : findR ls key with
  | none => rw [hf] at h; cases h
  | some r => rfl
theorem has_range {ls : List (List Row)} (hg : leavesFault ls = 0) {key v : Int} (h : Ch.has ls key = some v) : inB v 0 9999 = true := by
  unfold Ch.has at h
  cases hf : findR ls key with
  | none => rw [hf] at h; cases h
  | some r =>
    rw [hf] at h
    simp only at h
    unfold findR at hf
    have hm := List.mem_of_find?_eq_some hf
    have hr := ((good_iff ls).1 hg).2.2.1 r hm
    by_cases hgh : r.g = true
    · rw [if_pos hgh] at h; cases h
    · rw [if_neg hgh] at h
      cases h
      unfold Row.fault rowFault at hr
      cases hv : inB r.v 0 9999
      · rw [hv] at hr
        simp at hr
      · rfl
theorem bf_fine' {ls : List (List Row)} (hg : leavesFault ls = 0) {key : Int} (hk : inB key 0 99 = true) : (bf key (Ch.has ls key)).fault = 0 := by
  cases h : Ch.has ls key with
  | none =>
    unfold bf Bf.fault
    simp [hk, show inB 0 0 9999 = true from by decide]
  | some v =>
    unfold bf Bf.fault
    simp [hk, has_range hg h]
theorem bf_key (key : Int) (o : Option Int) : (bf key o).k = key := by cases o <;> rfl
theorem bf_back (key : Int) (o : Option Int) : (if (bf key o).h then some (bf key o).v else none) = o := by cases o <;> rfl
theorem setF_of {ls : List (List Row)} {tx : Int} {bs : List Bf} (hg : leavesFault ls = 0) (ht : inB tx 1 999 = true) (hb : befFault bs = 0) : setF ls tx bs = 0 := by
  unfold setF
  rw [hg, if_neg (by decide), if_pos ht, hb]

theorem rows_same {a b : List Row} (ha : a.Pairwise fun x y => x.k < y.k) (hb : b.Pairwise fun x y => x.k < y.k) (h : ∀ x, x ∈ a ↔ x ∈ b) : a = b := by
  induction a generalizing b with
  | nil =>
    cases b with
    | nil => rfl
    | cons y b => exact absurd ((h y).2 (by simp)) (by simp)
  | cons x a ih =>
    cases b with
    | nil => exact absurd ((h x).1 (by simp)) (by simp)
    | cons y b =>
      rw [List.pairwise_cons] at ha hb
      have hxy : x = y := by
        rcases List.mem_cons.1 ((h x).1 (by simp)) with e | e
        · exact e
        · rcases List.mem_cons.1 ((h y).2 (by simp)) with e2 | e2
          · exact e2.symm
          · have h1 := hb.1 x e
            have h2 := ha.1 y e2
            omega
      subst hxy
      congr 1
      refine ih ha.2 hb.2 fun z => ?_
      constructor
      · intro hm
        rcases List.mem_cons.1 ((h z).1 (List.mem_cons_of_mem _ hm)) with e | e
        · subst e; have := ha.1 z hm; omega
        · exact e
      · intro hm
        rcases List.mem_cons.1 ((h z).2 (List.mem_cons_of_mem _ hm)) with e | e
        · subst e; have := hb.1 z hm; omega
        · exact e
/-- Which rows are no ghosts: those that a key has. -/
theorem noGhost_mem {ls : List (List Row)} (hg : leavesFault ls = 0) {r : Row} : r ∈ noGhost ls.flatten ↔ r.g = false ∧ Ch.has ls r.k = some r.v := by
  obtain ⟨_, _, _, hp⟩ := (good_iff ls).1 hg
  unfold noGhost
  rw [List.mem_filter]
  constructor
  · rintro ⟨hm, hng⟩
    have hng' : r.g = false := by simpa using hng
    refine ⟨hng', ?_⟩
    have hf : findR ls r.k = some r := by
      unfold findR
      rw [List.find?_eq_some_iff_append]
      obtain ⟨as_, bs_, e⟩ := List.append_of_mem hm
      refine ⟨by simp, as_, bs_, e, fun a ha => ?_⟩
      rw [e, List.pairwise_append] at hp
      have := hp.2.2 a ha r (by simp)
      simp
      omega
    unfold Ch.has
    rw [hf]
    simp [hng']
  · rintro ⟨hng, hh⟩
    unfold Ch.has at hh
    cases hf : findR ls r.k with
    | none => rw [hf] at hh; cases hh
    | some x =>
      rw [hf] at hh
      simp only at hh
      have hxk : x.k = r.k := by
        unfold findR at hf
        have := List.find?_some hf
        simpa using this
      have hxm : x ∈ ls.flatten := by unfold findR at hf; exact List.mem_of_find?_eq_some hf
      by_cases hgh : x.g = true
      · rw [if_pos hgh] at hh; cases hh
      · rw [if_neg hgh] at hh
        have hxg : x.g = false := by simpa using hgh
        have : x = r := by
          cases x; cases r
          simp at hxk hh hxg hng
          simp [hxk, hh, hxg, hng]
        subst this
        exact ⟨hxm, by simp [hng]⟩
theorem noGhost_same {ls ls' : List (List Row)} (hg : leavesFault ls = 0) (hg' : leavesFault ls' = 0) (h : ∀ k, Ch.has ls k = Ch.has ls' k) : noGhost ls.flatten = noGhost ls'.flatten := by
  refine rows_same (((good_iff ls).1 hg).2.2.2.filter _) (((good_iff ls').1 hg').2.2.2.filter _) fun r => ?_
  rw [noGhost_mem hg, noGhost_mem hg', h]
theorem flat_240 {ls : List (List Row)} (hg : leavesFault ls = 0) : ls.flatten.length ≤ 240 := by
  obtain ⟨h1, h2, _, _⟩ := (good_iff ls).1 hg
  have : ∀ (xs : List (List Row)), (∀ l ∈ xs, l.length ≤ 4) → xs.flatten.length ≤ 4 * xs.length := by
    intro xs
    induction xs with
    | nil => intro _; simp
    | cons x xs ih =>
      intro h
      have := ih (fun l hl => h l (List.mem_cons_of_mem _ hl))
      have := h x (List.mem_cons_self ..)
      simp at *; omega
  have := this ls (fun l hl => (h2 l hl).2)
  omega
theorem map_good {ls : List (List Row)} (hg : leavesFault ls = 0) : mapRR ls.flatten = (0, noGhost ls.flatten) := by
  obtain ⟨_, _, h3, h4⟩ := (good_iff ls).1 hg
  refine mapRR_ok ?_
  rw [mapF_rise (by have := flat_240 hg; omega) (each_zero h3)]
  unfold rise
  exact (rise_iff _ _).2 ⟨h3, h4, fun q hq => by cases hq⟩

/-- What is set, and then taken back. -/
theorem sets_tell {ls ls' : List (List Row)} {tx key v : Int} {h : Bool} {rs : List Rec} (hr : setR ls tx key h v = (0, ls', rs)) :
    leavesFault ls = 0 ∧ inB tx 1 999 = true ∧ inB key 0 99 = true ∧ inB v 0 9999 = true ∧ leavesFault ls' = 0 ∧ rs = [setRec 2 ls tx key h v] ∧ (h = false → v = 0) ∧ (∀ k, Ch.has ls' k = if k = key then (if h then some v else none) else Ch.has ls k) ∧
      ∃ ls'', undoR ls' tx [bf key (Ch.has ls key)] = (0, ls'', [setRec 3 ls' tx key (bf key (Ch.has ls key)).h (bf key (Ch.has ls key)).v]) ∧ leavesFault ls'' = 0 ∧ ∀ k, Ch.has ls'' k = Ch.has ls k := by
  by_cases hf : setF ls tx [⟨key, h, v⟩] = 0
  · by_cases hs : (setLs ls key h v).1 = 0
    · rw [setR_ok hf hs] at hr
      simp only [Prod.mk.injEq, true_and] at hr
      obtain ⟨rfl, rfl⟩ := hr
      obtain ⟨hg, ht, hk, hv, h0⟩ := setF_zero hf
      have hg' := setLs_good hf hs
      have hb := bf_fine' hg hk
      have hhs := has_set hf hs
      have hfs := find_set hf hs
      generalize (setLs ls key h v).2 = ls' at *
      refine ⟨hg, ht, hk, hv, hg', rfl, h0, hhs, ?_⟩
      have hbk := bf_key key (Ch.has ls key)
      have hbb := bf_back key (Ch.has ls key)
      have hbs : (bf key (Ch.has ls key)).h = true → (findR ls key).isSome = true := by
        intro e
        cases hh : Ch.has ls key with
        | none => rw [hh] at e; cases e
        | some x => exact has_find hh
      generalize bf key (Ch.has ls key) = b at *
      obtain ⟨bk, bh, bv⟩ := b
      simp only at hbk hbb hbs
      subst hbk
      have hF2 : setF ls' tx [⟨bk, bh, bv⟩] = 0 := setF_of hg' ht (by rw [bef_single]; exact hb)
      have hS2 : (setLs ls' bk bh bv).1 = 0 := by
        cases bh
        · unfold setLs
          simp only [Bool.false_eq_true, if_false]
          split <;> rfl
        · have h1 := hfs bk (hbs rfl)
          have h2 := put_stays hg' ⟨bk, bv, false⟩ h1
          have h3 := ((good_iff ls').1 hg').1
          unfold setLs
          rw [if_pos rfl, h2, if_neg (by omega)]
      have e1 : setR ls' tx bk bh bv = (0, (setLs ls' bk bh bv).2, [setRec 2 ls' tx bk bh bv]) := setR_ok hF2 hS2
      refine ⟨(setLs ls' bk bh bv).2, ?_, setLs_good hF2 hS2, fun k => ?_⟩
      · rw [undoR_ok hF2]
        show backOne tx (0, ls', []) ⟨bk, bh, bv⟩ = _
        rw [back_ok (b := ⟨bk, bh, bv⟩) (by simp only; rw [e1])]
        simp only [e1, List.nil_append]
      · rw [has_set hF2 hS2]
        by_cases hkk : k = bk
        · subst hkk; rw [if_pos rfl]; exact hbb
        · rw [if_neg hkk, hhs, if_neg hkk]
    · rw [setR_many hf rfl (by simpa using hs)] at hr
      simp only [Prod.mk.injEq] at hr
      exact absurd hr.1 hs
  · rw [setR_code rfl (by simpa using hf)] at hr
    simp only [Prod.mk.injEq] at hr
    exact absurd hr.1 hf
end Go.Proofs.Ythfanfnbjldddaa.Ch


/- Leaves that are merged, evened and packed: plain. -/
namespace Go.Proofs.Ythfanfnbjldddaa.Ch
/-- What a question for two leaves is told. -/
def pairAsked (ls : List (List Row)) (at_ : Int) : Int := if leavesFault ls != 0 then leavesFault ls else if inB at_ 0 ((ls.length : Int) - 2) then 0 else 3
/-- The rows of the leaf at k and of the one behind it. -/
def pairAt (ls : List (List Row)) (k : Nat) : List Row := ls.getD k [] ++ ls.getD (k + 1) []
/-- Leaves in place of two. -/
def twoIn (ls : List (List Row)) (k : Nat) (mid : List (List Row)) : List (List Row) := ls.take k ++ mid ++ ls.drop (k + 2)
def halfOf (l : List Row) : Nat := (l.length + 1) / 2
def evens (l : List Row) : List (List Row) := [l.take (halfOf l), l.drop (halfOf l)]
/-- What MergeLeaves answers. -/
def mergeR (ls : List (List Row)) (at_ : Int) : Int × List (List Row) :=
  if pairAsked ls at_ != 0 then (pairAsked ls at_, []) else if 4 < (pairAt ls at_.toNat).length then (2, []) else (0, twoIn ls at_.toNat [pairAt ls at_.toNat])
/-- What EvenLeaves answers. -/
def evenR (ls : List (List Row)) (at_ : Int) : Int × List (List Row) :=
  if pairAsked ls at_ != 0 then (pairAsked ls at_, []) else (0, twoIn ls at_.toNat (evens (pairAt ls at_.toNat)))
/-- The i-th piece of four. -/
def pieceOf (F : List Row) (i : Nat) : List Row := (F.drop (i * 4)).take 4
def piecesN (F : List Row) : Nat := (F.length + 3) / 4
def pack (F : List Row) : List (List Row) := (List.range (piecesN F)).map (pieceOf F)
/-- What PackLeaves answers. -/
def packR (ls : List (List Row)) : Int × List (List Row) := if leavesFault ls != 0 then (leavesFault ls, []) else (0, pack ls.flatten)
/-- What FillOf answers. -/
def fillR (ls : List (List Row)) : Int × Int :=
  if leavesFault ls != 0 then (leavesFault ls, 0) else if ls.length = 0 then (4, 0) else (0, (ls.flatten.length : Int) * 100 / (4 * (ls.length : Int)))
def Row.same (a b : Row) : Bool := a.k == b.k && (a.v == b.v && a.g == b.g)
/-- Rows one by one the same. -/
def sameL : List Row → List Row → Bool
  | [], [] => true
  | a :: l, b :: m => a.same b && sameL l m
  | [], _ :: _ => false
  | _ :: _, [] => false
theorem Row.same_self (a : Row) : a.same a = true := by simp [Row.same]
theorem sameL_self (l : List Row) : sameL l l = true := by
  induction l with
  | nil => rfl
  | cons a l ih => simp [sameL, ih, Row.same_self]
theorem sameL_len (l m : List Row) (h : l.length ≠ m.length) : sameL l m = false := by
  induction l generalizing m with
  | nil => cases m with
    | nil => simp at h
    | cons b m => rfl
  | cons a l ih => cases m with
    | nil => rfl
    | cons b m => simp [sameL, ih m (by simpa using h)]
theorem sameL_at (l m : List Row) (k : Nat) (h : k < l.length) (h' : k < m.length) : sameL (l.drop k) (m.drop k) = ((l.getD k Row.zero).same (m.getD k Row.zero) && sameL (l.drop (k + 1)) (m.drop (k + 1))) := by
  rw [List.drop_eq_getElem_cons h, List.drop_eq_getElem_cons h', sameL]
  simp [List.getD, h, h']
/-- What SameRows answers. -/
def sameR (ps qs : List (List Row)) : Bool := leavesFault ps == 0 && (leavesFault qs == 0 && sameL ps.flatten qs.flatten)
theorem sameR_yes {ps qs : List (List Row)} (h : leavesFault ps = 0) (h' : leavesFault qs = 0) (hf : ps.flatten = qs.flatten) : sameR ps qs = true := by
  rw [sameR, h, h', hf, sameL_self]; rfl
theorem sameR_no {ps qs : List (List Row)} (h : (leavesFault ps != 0) = true) : sameR ps qs = false := by
  have h : leavesFault ps ≠ 0 := by simpa using h
  simp [sameR, h]
theorem sameR_no2 {ps qs : List (List Row)} (h : (leavesFault qs != 0) = true) : sameR ps qs = false := by
  have h : leavesFault qs ≠ 0 := by simpa using h
  simp [sameR, h]
theorem sameR_ok {ps qs : List (List Row)} (h : leavesFault ps = 0) (h' : leavesFault qs = 0) : sameR ps qs = sameL ps.flatten qs.flatten := by
  rw [sameR, h, h']; rfl

theorem two_flat (ls : List (List Row)) (k : Nat) (mid : List (List Row)) (hk : k + 1 < ls.length) (hm : mid.flatten = pairAt ls k) : (twoIn ls k mid).flatten = ls.flatten := by
  have e : ls = ls.take k ++ [ls.getD k [], ls.getD (k + 1) []] ++ ls.drop (k + 2) := by
    rw [List.append_assoc, show [ls.getD k [], ls.getD (k + 1) []] ++ ls.drop (k + 2) = ls.getD k [] :: ls.getD (k + 1) [] :: ls.drop (k + 2) from rfl, ← lv_drop ls (k + 1) hk, ← lv_drop ls k (by omega), List.take_append_drop]
  unfold twoIn
  conv => rhs; rw [e]
  simp only [List.flatten_append, hm, pairAt, List.flatten_cons, List.flatten_nil, List.append_nil]
theorem two_len (ls : List (List Row)) (k : Nat) (mid : List (List Row)) (hk : k + 1 < ls.length) : (twoIn ls k mid).length + 2 = ls.length + mid.length := by
  simp [twoIn, List.length_take, List.length_drop]; omega
theorem evens_flat (l : List Row) : (evens l).flatten = l := by simp [evens]
theorem pieces_take (F : List Row) (k : Nat) : ((List.range k).map (pieceOf F)).flatten = F.take (k * 4) := by
  induction k with
  | zero => simp
  | succ k ih =>
    rw [List.range_succ, List.map_append, List.flatten_append, ih]
    simp only [List.map_cons, List.map_nil, List.flatten_cons, List.flatten_nil, List.append_nil, pieceOf]
    rw [show (k + 1) * 4 = k * 4 + 4 by omega, List.take_add]
theorem pack_flat (F : List Row) : (pack F).flatten = F := by
  unfold pack
  rw [pieces_take]
  exact List.take_of_length_le (by unfold piecesN; omega)
theorem pack_len (F : List Row) : (pack F).length = piecesN F := by simp [pack]
theorem piece_len (F : List Row) (i : Nat) : (pieceOf F i).length = min 4 (F.length - i * 4) := by simp [pieceOf]
theorem flat_up (ls : List (List Row)) (h : ∀ l ∈ ls, l.length ≤ 4) : ls.flatten.length ≤ 4 * ls.length := by
  induction ls with
  | nil => simp
  | cons l ls ih =>
    have h1 := ih fun m hm => h m (List.mem_cons_of_mem _ hm)
    have h2 := h l List.mem_cons_self
    simp only [List.flatten_cons, List.length_append, List.length_cons]
    omega
theorem flat_lo (ls : List (List Row)) (h : ∀ l ∈ ls, l.length ≠ 0) : ls.length ≤ ls.flatten.length := by
  induction ls with
  | nil => simp
  | cons l ls ih =>
    have h1 := ih fun m hm => h m (List.mem_cons_of_mem _ hm)
    have h2 := h l List.mem_cons_self
    simp only [List.flatten_cons, List.length_append, List.length_cons]
    omega
/-- Packed leaves are right, and no more of them than there were. -/
theorem pack_good {ls : List (List Row)} (h : leavesFault ls = 0) : leavesFault (pack ls.flatten) = 0 ∧ (pack ls.flatten).length ≤ ls.length := by
  obtain ⟨h1, h2, h3, h4⟩ := (good_iff ls).1 h
  have hu := flat_up ls fun l hl => (h2 l hl).2
  have hn : (pack ls.flatten).length ≤ ls.length := by rw [pack_len]; unfold piecesN; omega
  refine ⟨(good_iff _).2 ⟨by omega, ?_, ?_, ?_⟩, hn⟩
  · intro l hl
    obtain ⟨i, hi, rfl⟩ := List.mem_map.1 hl
    have hi := List.mem_range.1 hi
    unfold piecesN at hi
    rw [piece_len]
    omega
  · rw [pack_flat]; exact h3
  · rw [pack_flat]; exact h4
theorem two_good {ls : List (List Row)} (h : leavesFault ls = 0) {k : Nat} (hk : k + 1 < ls.length) {mid : List (List Row)} (hm : mid.flatten = pairAt ls k) (hl : mid.length ≤ 2) (hg : ∀ l ∈ mid, l.length ≠ 0 ∧ l.length ≤ 4) : leavesFault (twoIn ls k mid) = 0 := by
  obtain ⟨h1, h2, h3, h4⟩ := (good_iff ls).1 h
  have hn := two_len ls k mid hk
  refine (good_iff _).2 ⟨by omega, ?_, ?_, ?_⟩
  · intro l hl
    unfold twoIn at hl
    rcases List.mem_append.1 hl with hl | hl
    · rcases List.mem_append.1 hl with hl | hl
      · exact h2 l (List.mem_of_mem_take hl)
      · exact hg l hl
    · exact h2 l (List.mem_of_mem_drop hl)
  · rw [two_flat ls k mid hk hm]; exact h3
  · rw [two_flat ls k mid hk hm]; exact h4
theorem getD_mem (ls : List (List Row)) (k : Nat) (h : k < ls.length) : ls.getD k [] ∈ ls := by
  simp [List.getD, List.getElem?_eq_getElem h]
theorem pair_pos {ls : List (List Row)} (h : leavesFault ls = 0) {k : Nat} (hk : k + 1 < ls.length) : 2 ≤ (pairAt ls k).length ∧ (pairAt ls k).length ≤ 8 := by
  obtain ⟨h1, h2, h3, h4⟩ := (good_iff ls).1 h
  have a := h2 _ (getD_mem ls k (by omega))
  have b := h2 _ (getD_mem ls (k + 1) hk)
  simp only [pairAt, List.length_append]
  omega
theorem merge_good {ls : List (List Row)} (h : leavesFault ls = 0) {k : Nat} (hk : k + 1 < ls.length) (h4 : ¬ 4 < (pairAt ls k).length) : leavesFault (twoIn ls k [pairAt ls k]) = 0 := by
  have := pair_pos h hk
  refine two_good h hk (by simp) (by simp) fun l hl => ?_
  rw [List.mem_singleton] at hl
  subst hl
  omega
theorem even_good {ls : List (List Row)} (h : leavesFault ls = 0) {k : Nat} (hk : k + 1 < ls.length) : leavesFault (twoIn ls k (evens (pairAt ls k))) = 0 := by
  have := pair_pos h hk
  refine two_good h hk (evens_flat _) (by simp [evens]) fun l hl => ?_
  simp only [evens, List.mem_cons, List.not_mem_nil, or_false] at hl
  rcases hl with rfl | rfl
  · rw [List.length_take]; unfold halfOf; omega
  · rw [List.length_drop]; unfold halfOf; omega
theorem asked_ok {ls : List (List Row)} {at_ : Int} (h : pairAsked ls at_ = 0) : leavesFault ls = 0 ∧ ∃ k : Nat, at_ = (k : Int) ∧ k + 1 < ls.length := by
  unfold pairAsked at h
  split at h
  · rename_i hc
    simp [h] at hc
  · rename_i hc
    split at h
    · rename_i hb
      simp [inB] at hb
      exact ⟨by simpa using hc, at_.toNat, by omega, by omega⟩
    · simp at h
theorem pack_pack (F : List Row) : pack (pack F).flatten = pack F := by rw [pack_flat]
theorem fillR_ok {ls : List (List Row)} (h : leavesFault ls = 0) : fillR ls = if ls.length = 0 then (4, 0) else (0, (ls.flatten.length : Int) * 100 / (4 * (ls.length : Int))) := by
  rw [fillR, h]; rfl
theorem fillR_no {ls : List (List Row)} (h : (leavesFault ls != 0) = true) : fillR ls = (leavesFault ls, 0) := by rw [fillR, if_pos h]
theorem packR_ok {ls : List (List Row)} (h : leavesFault ls = 0) : packR ls = (0, pack ls.flatten) := by rw [packR, h]; rfl
theorem packR_no {ls : List (List Row)} (h : (leavesFault ls != 0) = true) : packR ls = (leavesFault ls, []) := by rw [packR, if_pos h]
theorem mergeR_no {ls : List (List Row)} {at_ : Int} (h : (pairAsked ls at_ != 0) = true) : mergeR ls at_ = (pairAsked ls at_, []) := by rw [mergeR, if_pos h]
theorem evenR_no {ls : List (List Row)} {at_ : Int} (h : (pairAsked ls at_ != 0) = true) : evenR ls at_ = (pairAsked ls at_, []) := by rw [evenR, if_pos h]
theorem mergeR_ok {ls : List (List Row)} {k : Nat} (h : pairAsked ls (k : Int) = 0) : mergeR ls (k : Int) = if 4 < (pairAt ls k).length then (2, []) else (0, twoIn ls k [pairAt ls k]) := by rw [mergeR, h]; rfl
theorem evenR_ok {ls : List (List Row)} {k : Nat} (h : pairAsked ls (k : Int) = 0) : evenR ls (k : Int) = (0, twoIn ls k (evens (pairAt ls k))) := by rw [evenR, h]; rfl
theorem fill_more {ls : List (List Row)} (h : leavesFault ls = 0) : (fillR (pack ls.flatten)).1 = (fillR ls).1 ∧ (fillR ls).2 ≤ (fillR (pack ls.flatten)).2 := by
  obtain ⟨hp, hn⟩ := pack_good h
  obtain ⟨h1, h2, h3, h4⟩ := (good_iff ls).1 h
  have hlo := flat_lo ls fun l hl => (h2 l hl).1
  rw [fillR_ok hp, fillR_ok h, pack_flat]
  by_cases h0 : ls.length = 0
  · have : (pack ls.flatten).length = 0 := by omega
    rw [if_pos this, if_pos h0]
    exact ⟨rfl, Int.le_refl _⟩
  · have h0' : (pack ls.flatten).length ≠ 0 := by rw [pack_len]; unfold piecesN; omega
    rw [if_neg h0', if_neg h0]
    refine ⟨rfl, ?_⟩
    show (ls.flatten.length : Int) * 100 / (4 * (ls.length : Int)) ≤ (ls.flatten.length : Int) * 100 / (4 * ((pack ls.flatten).length : Int))
    generalize ls.flatten.length = F at *
    generalize (pack ls.flatten).length = P at *
    generalize ls.length = L at *
    have e1 : (F : Int) * 100 / (4 * (L : Int)) = ((F * 100 / (4 * L) : Nat) : Int) := by push_cast; rfl
    have e2 : (F : Int) * 100 / (4 * (P : Int)) = ((F * 100 / (4 * P) : Nat) : Int) := by push_cast; rfl
    rw [e1, e2]
    exact Int.ofNat_le.2 (Nat.div_le_div_left (by omega) (by omega))
end Go.Proofs.Ythfanfnbjldddaa.Ch


/- FillOf of the model and of the program. -/
namespace Go.Proofs.Ythfanfnbjldddaa
open Go.RowKit

theorem own_rows_len {w : World} {B m : Nat} {v : Value} {F : List Ch.Row} (h : w.ownsRow B 105 3 v m (rcells F)) : Hid (m = F.length) := by
  have h1 := h.1
  rw [rcells_len] at h1
  show _ = _
  omega
theorem quo_is (F n : Nat) (hF : F ≤ 1048576) : ∃ Q : Nat, Q ≤ 104857600 ∧ ((F : Int) * 100).tdiv (4 * (n : Int)) = (Q : Int) ∧ Hid ((F : Int) * 100 / (4 * (n : Int)) = (Q : Int)) := by
  have e : (F : Int) * 100 / (4 * (n : Int)) = ((F * 100 / (4 * n) : Nat) : Int) := by push_cast; rfl
  refine ⟨F * 100 / (4 * n), Nat.le_trans (Nat.div_le_self _ _) (by omega), ?_, e⟩
  rw [Int.tdiv_eq_ediv_of_nonneg (by omega), e]

/-- RowsOf of right leaves. -/
theorem implRowsOf_ok (a : Option Addr) (n cap : Nat) (ls : List (List Ch.Row)) (w : World) (h : LvAt w a n ls) (hs : Ch.lvSize ls ≤ 1048576) (h0 : Ch.leavesFault ls = 0) (m : Nat) (hm : Hid (ls.flatten.length = m)) :
    Calls Try.prog 20 #[.slice a n cap] w fun e w' => ∃ a' c', e = .returned (.agg #[.int .i64 0, .slice a' m c']) ∧ w'.ownsRow w.heap.size 105 3 (.slice a' m c') m (rcells ls.flatten) ∧ Below w.heap.size w w' := by
  have RI := implRowsOf_any a n cap ls w h hs
  rw [Ch.rowsR_ok h0] at RI
  refine RI.mono ?_
  rintro e w2 ⟨a', m', c', rfl, hm', own, b2⟩
  have HM := (own_rows_len own).out
  have hm := hm.out
  subst HM hm
  exact ⟨a', c', rfl, own, b2⟩
/-- The model's list of all rows, its length named. -/
theorem specRows_m (a : Option Addr) (n cap : Nat) (ls : List (List Ch.Row)) (w : World) (h : LvAt w a n ls) (hs : Ch.lvSize ls ≤ 1048576) (hg : ∀ k, k < n → (ls.getD k []).length ≠ 0) (m : Nat) (hm : Hid (ls.flatten.length = m)) :
    Calls Try.prog 80 #[.slice a n cap] w fun e w' => ∃ a' c', e = .returned (.slice a' m c') ∧ w'.ownsRow w.heap.size 105 3 (.slice a' m c') m (rcells ls.flatten) ∧ Below w.heap.size w w' := by
  have hm := hm.out
  subst hm
  exact specRows_any a n cap ls w h hs hg

end Go.Proofs.Ythfanfnbjldddaa

