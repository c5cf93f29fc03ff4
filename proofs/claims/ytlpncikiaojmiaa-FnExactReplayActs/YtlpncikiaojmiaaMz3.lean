/- Several texts in one: LosC, RdI, RpM. -/
import Derived.Test.YtlpncikiaojmiaaMz2
import Derived.Test.YtlpncikiaojmiaaRvD
import Derived.Test.YtlpncikiaojmiaaMz1
import Derived.Test.YtlpncikiaojmiaaWrM


/- LosersOf of the program and of the model. -/
namespace Go.Proofs.Ytlpncikiaojmiaa
open Go.RowKit Go.Maps

end Go.Proofs.Ytlpncikiaojmiaa


/- l13Redo and RedoRows of the model. -/
namespace Go.Proofs.Ytlpncikiaojmiaa
open Go.RowKit

theorem Ch.fold_out : ∀ (l : List Ch.Row) (S : Ch.Sl) (q : Int), (∀ r ∈ l, r.k ≠ q) → (l.foldl (fun S r => S.set r.k (some r.v)) S) q = S q := by
  intro l
  induction l with
  | nil => intro S q _; rfl
  | cons a l ih =>
    intro S q h
    rw [List.foldl_cons, ih _ _ (fun r hr => h r (List.mem_cons_of_mem _ hr))]
    simp only [Ch.Sl.set]
    rw [if_neg (fun e => h a List.mem_cons_self e.symm)]
theorem Ch.fold_in : ∀ (l : List Ch.Row) (S : Ch.Sl), l.Pairwise (fun a b => a.k < b.k) → ∀ r ∈ l, (l.foldl (fun S r => S.set r.k (some r.v)) S) r.k = some r.v := by
  intro l
  induction l with
  | nil => intro S _ r hr; simp at hr
  | cons a l ih =>
    intro S hp r hr
    have p1 := List.pairwise_cons.1 hp
    rw [List.foldl_cons]
    rcases List.mem_cons.1 hr with rfl | hr
    · rw [Ch.fold_out _ _ _ (fun x hx => by have := p1.1 x hx; omega)]
      simp [Ch.Sl.set]
    · exact ih _ p1.2 r hr
theorem Ch.filter_same : ∀ (l : List Ch.Row), ¬ (Ch.noGhost l).length < l.length → ∀ r ∈ l, r.g = false := by
  intro l
  induction l with
  | nil => intro _ r hr; simp at hr
  | cons a l ih =>
    intro h r hr
    have hle := Ch.noGhost_len l
    unfold Ch.noGhost at h hle
    rw [List.filter_cons] at h
    cases hg : a.g
    · rw [hg] at h
      simp only [Bool.not_false, if_true, List.length_cons] at h
      rcases List.mem_cons.1 hr with rfl | hr
      · exact hg
      · exact ih (by unfold Ch.noGhost; omega) r hr
    · rw [hg] at h
      simp only [Bool.not_true, if_neg (by simp : ¬ false = true), List.length_cons] at h
      exfalso; omega
/-- A base without a fault is the rows of what it says. -/
theorem Ch.base_rows {base : List Ch.Row} (h : Ch.baseF base = 0) : Ch.rowsS (Ch.baseTo base base.length) = base := by
  obtain ⟨h1, h2, h3⟩ := Ch.base_zero h
  have hri : Ch.rise base = 0 := by
    have he : Ch.eachF base = 0 := Ch.each_zero (fun r hr => by
      obtain ⟨i, hi, rfl⟩ := List.getElem_of_mem hr
      have := h3 i hi
      simpa [List.getD, hi] using this)
    rw [Ch.mapF_rise (by omega) he] at h1
    exact h1
  have hp := (Ch.rise_iff base none).1 hri
  have hg : ∀ r ∈ base, r.g = false := Ch.filter_same base (fun hl => by rw [Ch.base_ghost h1 hl] at h; omega)
  refine Ch.rows_ext _ _ (Ch.rowsTo_sorted _ 100) hp.2.1 (fun r => ?_)
  rw [Ch.rowsS, Ch.rowsTo_mem]
  have hin := Ch.fold_in base (fun _ => none) hp.2.1
  constructor
  · rintro ⟨i, hi, hk, hs, hgr⟩
    unfold Ch.baseTo at hs
    rw [List.take_length] at hs
    by_cases he : ∃ x ∈ base, x.k = (i : Int)
    · obtain ⟨x, hx, hxk⟩ := he
      have h5 := hin x hx
      rw [hxk, hs] at h5
      have : r = x := by
        obtain ⟨k, v, g⟩ := r
        obtain ⟨k', v', g'⟩ := x
        have h6 := hg _ hx
        simp only [Option.some.injEq] at hk hxk h5 hgr h6
        rw [hk, hxk, h5, hgr, h6]
      rw [this]; exact hx
    · rw [Ch.fold_out _ _ _ (fun x hx e => he ⟨x, hx, e⟩)] at hs
      simp at hs
  · intro hr
    have hf := Ch.row_key (hp.1 r hr)
    refine ⟨r.k.toNat, by omega, by omega, ?_, hg r hr⟩
    rw [show ((r.k.toNat : Nat) : Int) = r.k by omega]
    unfold Ch.baseTo
    rw [List.take_length]
    exact hin r hr
theorem Ch.setZ_rows (S : Ch.Sl) {ky : Int} (h : 0 ≤ ky ∧ ky ≤ 99) (hs : Bool) (v : Int) : Ch.setZ (Ch.rowsS S) ky hs v = Ch.rowsS (S.set ky (Ch.optV hs v)) := by
  cases hs
  · exact Ch.rowsS_drop S ky
  · exact Ch.rowsS_into S h.1 h.2
theorem Ch.rowsS_len (S : Ch.Sl) : (Ch.rowsS S).length ≤ 100 := Ch.rowsTo_len S 100
theorem Ch.los_has (rs : List Ch.Rec) {t : Int} (h : 1 ≤ t ∧ t ≤ 999) : (Ch.losL rs).contains t = (Ch.fate rs t).lost := by
  rw [Bool.eq_iff_iff, List.contains_iff_mem, Ch.losL_mem]
  exact ⟨fun h => h.2.2, fun hl => ⟨h.1, h.2, hl⟩⟩
theorem owns_lenR {w : World} {B : Nat} {v : Value} {m : Nat} {zs : List Ch.Row} (h : w.ownsRow B 64 3 v m (rcells zs)) : m = zs.length := by
  have := h.1
  rw [rcells_len] at this
  omega

end Go.Proofs.Ytlpncikiaojmiaa

/- Plain: acts replayed. -/
namespace Go.Proofs.Ytlpncikiaojmiaa

/-- What an operation tells of a row. -/
def Ch.tellRow (k a b v : Int) (r : Ch.Row) : List Int :=
  if k = 1 then (if (r.k == a) = true then [r.v] else []) else if k = 4 then (if Ch.inB r.k a b = true then [r.k, r.v] else []) else if k = 5 then (if (r.v == v) = true then [r.k] else []) else []
/-- What an operation tells of rows. -/
def Ch.tell (k a b v : Int) (rs : List Ch.Row) : List Int := rs.flatMap (Ch.tellRow k a b v)
theorem Ch.tell_snoc (k a b v : Int) {rs : List Ch.Row} {j : Nat} (h : j < rs.length) : Ch.tell k a b v (rs.take (j + 1)) = Ch.tell k a b v (rs.take j) ++ Ch.tellRow k a b v (rs.getD j Ch.Row.zero) := by
  unfold Ch.tell
  rw [Ch.take_snocW rs j h, List.flatMap_append]
  simp
theorem Ch.tellRow_len (k a b v : Int) (r : Ch.Row) : (Ch.tellRow k a b v r).length ≤ 2 := by
  unfold Ch.tellRow
  repeat' split
  all_goals simp
theorem Ch.tell_len (k a b v : Int) (rs : List Ch.Row) : (Ch.tell k a b v rs).length ≤ 2 * rs.length := by
  induction rs with
  | nil => simp [Ch.tell]
  | cons r rs ih =>
    have := Ch.tellRow_len k a b v r
    unfold Ch.tell at *
    simp only [List.flatMap_cons, List.length_append, List.length_cons]
    omega
theorem Ch.tell_cases (k : Int) : k = 1 ∨ k = 4 ∨ k = 5 ∨ ((k == 1) = false ∧ (k == 4) = false ∧ (k == 5) = false) := by
  by_cases h1 : k = 1
  · exact .inl h1
  · by_cases h4 : k = 4
    · exact .inr (.inl h4)
    · by_cases h5 : k = 5
      · exact .inr (.inr (.inl h5))
      · exact .inr (.inr (.inr ⟨by simpa using h1, by simpa using h4, by simpa using h5⟩))
theorem Ch.tellRow_none {k a b v : Int} {r : Ch.Row} (h : (k == 1) = false ∧ (k == 4) = false ∧ (k == 5) = false) : Ch.tellRow k a b v r = [] := by
  simp only [beq_eq_false_iff_ne, ne_eq] at h
  unfold Ch.tellRow
  rw [if_neg h.1, if_neg h.2.1, if_neg h.2.2]
theorem Ch.tell1_y {a b v : Int} {r : Ch.Row} (h : (r.k == a) = true) : Ch.tellRow 1 a b v r = [r.v] := by simp [Ch.tellRow, h]
theorem Ch.tell1_n {a b v : Int} {r : Ch.Row} (h : (r.k == a) = false) : Ch.tellRow 1 a b v r = [] := by simp [Ch.tellRow, h]
theorem Ch.tell4_y {a b v : Int} {r : Ch.Row} (h : Ch.inB r.k a b = true) : Ch.tellRow 4 a b v r = [r.k, r.v] := by simp [Ch.tellRow, h]
theorem Ch.tell4_n {a b v : Int} {r : Ch.Row} (h : Ch.inB r.k a b = false) : Ch.tellRow 4 a b v r = [] := by simp [Ch.tellRow, h]
theorem Ch.tell5_y {a b v : Int} {r : Ch.Row} (h : (r.v == v) = true) : Ch.tellRow 5 a b v r = [r.k] := by simp [Ch.tellRow, h]
theorem Ch.tell5_n {a b v : Int} {r : Ch.Row} (h : (r.v == v) = false) : Ch.tellRow 5 a b v r = [] := by simp [Ch.tellRow, h]

/-- How far a replay has come: the places of keys, and whether all answers were right. -/
structure Ch.Rp where
  s : Ch.Sl
  ok : Bool
/-- An operation is done to the places of keys. -/
def Ch.doS (S : Ch.Sl) (t : Ch.Ac) : Ch.Sl := if Ch.isW t.k = true then S.set t.a (Ch.optV (t.k == 2) t.v) else S
def Ch.rep1 (st : Ch.Rp) (t : Ch.Ac) : Ch.Rp := ⟨Ch.doS st.s t, st.ok && (t.an == Ch.tell t.k t.a t.b t.v (Ch.rowsS st.s))⟩
def Ch.repL (ts : List Ch.Ac) (st : Ch.Rp) (is : List Nat) : Ch.Rp := is.foldl (fun st i => Ch.rep1 st (Ch.acAt ts i)) st
def Ch.repTo (ts : List Ch.Ac) (cs : List Int) (st : Ch.Rp) (m : Nat) : Ch.Rp := (cs.take m).foldl (fun st c => Ch.repL ts st (Ch.actsOf ts c ts.length)) st
theorem Ch.repL_snoc (ts : List Ch.Ac) (st : Ch.Rp) (is : List Nat) (i : Nat) : Ch.repL ts st (is ++ [i]) = Ch.rep1 (Ch.repL ts st is) (Ch.acAt ts i) := by
  unfold Ch.repL
  rw [List.foldl_append]
  rfl
theorem Ch.repTo_step (ts : List Ch.Ac) {cs : List Int} (st : Ch.Rp) {m : Nat} (h : m < cs.length) : Ch.repTo ts cs st (m + 1) = Ch.repL ts (Ch.repTo ts cs st m) (Ch.actsOf ts (cs.getD m 0) ts.length) := by
  unfold Ch.repTo
  rw [List.take_add_one, List.getElem?_eq_getElem h, List.foldl_append]
  simp [List.getD, h]
theorem Ch.repL_no {ts : List Ch.Ac} {st : Ch.Rp} {c : Int} {k : Nat} (h : ((Ch.acAt ts k).tx == c) = false) : Ch.repL ts st (Ch.actsOf ts c (k + 1)) = Ch.repL ts st (Ch.actsOf ts c k) := by
  rw [Ch.actsOf_next, h]
  simp
theorem Ch.repL_yes {ts : List Ch.Ac} {st : Ch.Rp} {c : Int} {k : Nat} (h : ((Ch.acAt ts k).tx == c) = true) : Ch.repL ts st (Ch.actsOf ts c (k + 1)) = Ch.rep1 (Ch.repL ts st (Ch.actsOf ts c k)) (Ch.acAt ts k) := by
  rw [Ch.actsOf_next, if_pos h, Ch.repL_snoc]
/-- ReplayActs. -/
def Ch.repR (base : List Ch.Row) (ts : List Ch.Ac) (cs : List Int) : Int × Bool × List Ch.Row :=
  if Ch.acsF ts != 0 then (Ch.acsF ts, false, []) else if Ch.baseF base != 0 then (Ch.baseF base, false, []) else if 40 < cs.length then (2, false, []) else
    (0, (Ch.repTo ts cs ⟨Ch.baseTo base base.length, true⟩ cs.length).ok, Ch.rowsS (Ch.repTo ts cs ⟨Ch.baseTo base base.length, true⟩ cs.length).s)
/-- Its code. -/
def Ch.repF (base : List Ch.Row) (ts : List Ch.Ac) (cs : List Int) : Int := if Ch.acsF ts != 0 then Ch.acsF ts else if Ch.baseF base != 0 then Ch.baseF base else if 40 < cs.length then 2 else 0
theorem Ch.repR_bad {base : List Ch.Row} {ts : List Ch.Ac} {cs : List Int} {c : Int} (h : Ch.repF base ts cs = c) (hc : (c != 0) = true) : Ch.repR base ts cs = (c, false, []) := by
  unfold Ch.repF at h
  unfold Ch.repR
  by_cases h1 : (Ch.acsF ts != 0) = true
  · rw [if_pos h1] at h ⊢; rw [h]
  · rw [if_neg h1] at h ⊢
    by_cases h2 : (Ch.baseF base != 0) = true
    · rw [if_pos h2] at h ⊢; rw [h]
    · rw [if_neg h2] at h ⊢
      by_cases h3 : 40 < cs.length
      · rw [if_pos h3] at h ⊢; rw [h]
      · rw [if_neg h3] at h; subst h; simp at hc
theorem Ch.repF_zero {base : List Ch.Row} {ts : List Ch.Ac} {cs : List Int} (h : Ch.repF base ts cs = 0) : Ch.acsF ts = 0 ∧ Ch.baseF base = 0 ∧ cs.length ≤ 40 := by
  unfold Ch.repF at h
  by_cases h1 : (Ch.acsF ts != 0) = true
  · rw [if_pos h1] at h; rw [h] at h1; simp at h1
  · rw [if_neg h1] at h
    by_cases h2 : (Ch.baseF base != 0) = true
    · rw [if_pos h2] at h; rw [h] at h2; simp at h2
    · rw [if_neg h2] at h
      by_cases h3 : 40 < cs.length
      · rw [if_pos h3] at h; simp at h
      · exact ⟨by simpa using h1, by simpa using h2, by omega⟩
theorem Ch.repR_ok {base : List Ch.Row} {ts : List Ch.Ac} {cs : List Int} (h : Ch.repF base ts cs = 0) : Ch.repR base ts cs = (0, (Ch.repTo ts cs ⟨Ch.baseTo base base.length, true⟩ cs.length).ok, Ch.rowsS (Ch.repTo ts cs ⟨Ch.baseTo base base.length, true⟩ cs.length).s) := by
  obtain ⟨h1, h2, h3⟩ := Ch.repF_zero h
  unfold Ch.repR
  rw [h1, h2, if_neg (by decide), if_neg (by decide), if_neg (by omega)]
theorem Ch.repR_len (base : List Ch.Row) (ts : List Ch.Ac) (cs : List Int) : (Ch.repR base ts cs).2.2.length ≤ 100 := by
  unfold Ch.repR
  repeat' split
  all_goals first | (simp; done) | exact Ch.rowsS_len _
/-- An act that is none, or one without a fault, writes a key. -/
theorem Ch.write_ok {ts : List Ch.Ac} (hf : ∀ k, k < ts.length → (Ch.acAt ts k).fault = 0) (i : Nat) (hw : Ch.isW (Ch.acAt ts i).k = true) : 0 ≤ (Ch.acAt ts i).a ∧ (Ch.acAt ts i).a ≤ 99 := by
  by_cases hi : i < ts.length
  · have := Ch.write_key (hf i hi) hw
    unfold Ch.inB at this
    simpa using this
  · have e : Ch.acAt ts i = Ch.Ac.zero := by simp [Ch.acAt, List.getD, List.getElem?_eq_none (show ts.length ≤ i by omega)]
    rw [e] at hw
    cases hw
end Go.Proofs.Ytlpncikiaojmiaa

