
/- Plain mathematics of chapter 13: what each key has, records done again and taken back: no Go in it. -/
import Derived.Test.YtlpncikiaojmiaaLosM
import Derived.Test.YtlpncikiaojmiaaMapM
import Derived.Test.YtlpncikiaojmiaaNwM
namespace Go.Proofs.Ytlpncikiaojmiaa.Ch

/-- What each key has. -/
abbrev Sl := Int → Option Int
def Sl.set (S : Sl) (k : Int) (o : Option Int) : Sl := fun q => if q = k then o else S q
def optV (h : Bool) (v : Int) : Option Int := if h then some v else none
def rowAtS (S : Sl) (i : Nat) : Option Row := (S i).map (fun v => ⟨i, v, false⟩)
/-- The rows of the first m keys. -/
def rowsTo (S : Sl) (m : Nat) : List Row := (List.range m).filterMap (rowAtS S)
def rowsS (S : Sl) : List Row := rowsTo S 100
theorem rowsTo_yes {S : Sl} {m : Nat} {v : Int} (h : S m = some v) : rowsTo S (m + 1) = rowsTo S m ++ [⟨m, v, false⟩] := by
  unfold rowsTo
  rw [List.range_succ, List.filterMap_append]
  simp [rowAtS, h]
theorem rowsTo_no {S : Sl} {m : Nat} (h : S m = none) : rowsTo S (m + 1) = rowsTo S m := by
  unfold rowsTo
  rw [List.range_succ, List.filterMap_append]
  simp [rowAtS, h]
theorem rowsTo_len (S : Sl) (m : Nat) : (rowsTo S m).length ≤ m := by
  unfold rowsTo
  exact Nat.le_trans (List.length_filterMap_le _ _) (by simp)
theorem rowsTo_mem (S : Sl) (m : Nat) (r : Row) : r ∈ rowsTo S m ↔ ∃ i : Nat, i < m ∧ r.k = i ∧ S i = some r.v ∧ r.g = false := by
  unfold rowsTo rowAtS
  simp only [List.mem_filterMap, List.mem_range, Option.map_eq_some_iff]
  constructor
  · rintro ⟨i, hi, v, hv, rfl⟩
    exact ⟨i, hi, rfl, hv, rfl⟩
  · rintro ⟨i, hi, hk, hs, hg⟩
    refine ⟨i, hi, r.v, hs, ?_⟩
    obtain ⟨k, v, g⟩ := r
    simp only at hk hg
    rw [hk, hg]
theorem rowsTo_sorted (S : Sl) (m : Nat) : (rowsTo S m).Pairwise (fun a b => a.k < b.k) := by
  unfold rowsTo
  rw [List.pairwise_filterMap]
  refine List.Pairwise.imp ?_ List.pairwise_lt_range
  intro i j hij a ha b hb
  simp only [rowAtS, Option.map_eq_some_iff] at ha hb
  obtain ⟨v, _, rfl⟩ := ha
  obtain ⟨u, _, rfl⟩ := hb
  show (i : Int) < (j : Int)
  omega
/-- Rows that rise, with the same members: the same rows. -/
theorem rows_ext : ∀ (l l' : List Row), l.Pairwise (fun a b => a.k < b.k) → l'.Pairwise (fun a b => a.k < b.k) → (∀ r, r ∈ l ↔ r ∈ l') → l = l' := by
  intro l
  induction l with
  | nil =>
    intro l' _ _ h
    cases l' with
    | nil => rfl
    | cons a l' => exact absurd ((h a).2 List.mem_cons_self) (by simp)
  | cons a l ih =>
    intro l' h1 h2 h
    cases l' with
    | nil => exact absurd ((h a).1 List.mem_cons_self) (by simp)
    | cons b l' =>
      have p1 := List.pairwise_cons.1 h1
      have p2 := List.pairwise_cons.1 h2
      have hab : a = b := by
        rcases List.mem_cons.1 ((h a).1 List.mem_cons_self) with e | e
        · exact e
        · rcases List.mem_cons.1 ((h b).2 List.mem_cons_self) with e' | e'
          · exact e'.symm
          · have := p1.1 b e'; have := p2.1 a e; omega
      subst hab
      congr 1
      refine ih l' p1.2 p2.2 (fun r => ?_)
      constructor
      · intro hr
        rcases List.mem_cons.1 ((h r).1 (List.mem_cons_of_mem _ hr)) with e | e
        · subst e; have := p1.1 r hr; omega
        · exact e
      · intro hr
        rcases List.mem_cons.1 ((h r).2 (List.mem_cons_of_mem _ hr)) with e | e
        · subst e; have := p2.1 r hr; omega
        · exact e
theorem into_memS {r : Row} : ∀ {l : List Row}, l.Pairwise (fun a b => a.k < b.k) → ∀ x, x ∈ into r l ↔ x = r ∨ (x ∈ l ∧ x.k ≠ r.k) := by
  intro l
  induction l with
  | nil => intro _ x; simp [into]
  | cons a l ih =>
    intro hp x
    have p1 := List.pairwise_cons.1 hp
    by_cases h : a.k < r.k
    · simp only [into, if_pos h, List.mem_cons, ih p1.2 x]
      constructor
      · rintro (rfl | rfl | ⟨h1, h2⟩)
        · exact .inr ⟨.inl rfl, by omega⟩
        · exact .inl rfl
        · exact .inr ⟨.inr h1, h2⟩
      · rintro (rfl | ⟨rfl | h1, h2⟩)
        · exact .inr (.inl rfl)
        · exact .inl rfl
        · exact .inr (.inr ⟨h1, h2⟩)
    · simp only [into, if_neg h, List.mem_cons, List.mem_filter, notK]
      simp
theorem into_sortedS {r : Row} : ∀ {l : List Row}, l.Pairwise (fun a b => a.k < b.k) → (into r l).Pairwise (fun a b => a.k < b.k) := by
  intro l
  induction l with
  | nil => intro _; simp [into]
  | cons a l ih =>
    intro hp
    have p1 := List.pairwise_cons.1 hp
    by_cases h : a.k < r.k
    · simp only [into, if_pos h]
      refine List.pairwise_cons.2 ⟨fun x hx => ?_, ih p1.2⟩
      rcases (into_memS p1.2 x).1 hx with rfl | ⟨h1, _⟩
      · exact h
      · exact p1.1 x h1
    · simp only [into, if_neg h]
      refine List.pairwise_cons.2 ⟨fun x hx => ?_, hp.filter _⟩
      rw [List.mem_filter] at hx
      have hne : x.k ≠ r.k := by simpa [notK] using hx.2
      rcases List.mem_cons.1 hx.1 with rfl | h1
      · omega
      · have := p1.1 x h1; omega
/-- A key that gets a value. -/
theorem rowsS_into (S : Sl) {k v : Int} (h0 : 0 ≤ k) (h1 : k ≤ 99) : into ⟨k, v, false⟩ (rowsS S) = rowsS (S.set k (some v)) := by
  refine rows_ext _ _ (into_sortedS (rowsTo_sorted S 100)) (rowsTo_sorted _ 100) (fun r => ?_)
  show r ∈ into _ (rowsTo S 100) ↔ r ∈ rowsTo _ 100
  rw [into_memS (rowsTo_sorted S 100), rowsTo_mem, rowsTo_mem]
  constructor
  · rintro (rfl | ⟨⟨i, hi, hk, hs, hg⟩, hne⟩)
    · exact ⟨k.toNat, by omega, by simp; omega, by simp only [Sl.set]; rw [if_pos (by omega)], rfl⟩
    · simp only at hne
      exact ⟨i, hi, hk, by simp only [Sl.set]; rw [if_neg (by omega)]; exact hs, hg⟩
  · rintro ⟨i, hi, hk, hs, hg⟩
    simp only [Sl.set] at hs
    by_cases e : (i : Int) = k
    · rw [if_pos e] at hs
      left
      obtain ⟨a, b, c⟩ := r
      simp only [Option.some.injEq] at hk hs hg
      rw [hk, e, ← hs, hg]
    · rw [if_neg e] at hs
      exact .inr ⟨⟨i, hi, hk, hs, hg⟩, by simp only; omega⟩
/-- A key that has nothing any more. -/
theorem rowsS_drop (S : Sl) (k : Int) : (rowsS S).filter (notK k) = rowsS (S.set k none) := by
  refine rows_ext _ _ ((rowsTo_sorted S 100).filter _) (rowsTo_sorted _ 100) (fun r => ?_)
  rw [List.mem_filter, rowsS, rowsS, rowsTo_mem, rowsTo_mem]
  constructor
  · rintro ⟨⟨i, hi, hk, hs, hg⟩, hn⟩
    have hne : r.k ≠ k := by simpa [notK] using hn
    exact ⟨i, hi, hk, by simp only [Sl.set]; rw [if_neg (by omega)]; exact hs, hg⟩
  · rintro ⟨i, hi, hk, hs, hg⟩
    simp only [Sl.set] at hs
    by_cases e : (i : Int) = k
    · rw [if_pos e] at hs; simp at hs
    · rw [if_neg e] at hs
      exact ⟨⟨i, hi, hk, hs, hg⟩, by simp only [notK]; simp; omega⟩

/-- What the first rows of a base say. -/
def baseTo (rs : List Row) (k : Nat) : Sl := (rs.take k).foldl (fun S r => S.set r.k (some r.v)) (fun _ => none)
theorem take_snocW (rs : List Row) (k : Nat) (h : k < rs.length) : rs.take (k + 1) = rs.take k ++ [rs.getD k Row.zero] := by
  rw [List.take_add_one, List.getElem?_eq_getElem h]
  simp [List.getD, h]
theorem baseTo_step {rs : List Row} {k : Nat} (h : k < rs.length) : baseTo rs (k + 1) = (baseTo rs k).set (rs.getD k Row.zero).k (some (rs.getD k Row.zero).v) := by
  unfold baseTo
  rw [take_snocW rs k h, List.foldl_append]
  rfl
/-- A record done again, over what each key has. -/
def redo1 (S : Sl) (r : Rec) : Sl := if sets r.kd then S.set r.ky (optV r.hs r.nw) else S
def redoTo (S : Sl) (rs : List Rec) (k : Nat) : Sl := (rs.take k).foldl redo1 S
theorem redoTo_step {S : Sl} {rs : List Rec} {k : Nat} (h : k < rs.length) : redoTo S rs (k + 1) = redo1 (redoTo S rs k) (rs.getD k Rec.zero) := by
  unfold redoTo
  rw [take_snocR rs k h, List.foldl_append]
  rfl
/-- A record taken back: what each key has, and how many of each transaction's changes are to be passed over. -/
structure Bs where
  s : Sl
  b : Int → Int
def back1 (L : Int → Bool) (st : Bs) (r : Rec) : Bs :=
  if r.kd != 2 || !L r.tx then st else if 0 < st.b r.tx then ⟨st.s, fun t => if t = r.tx then st.b t - 1 else st.b t⟩ else ⟨st.s.set r.ky (optV r.hd r.ol), st.b⟩
def backTo (L : Int → Bool) (st : Bs) (rs : List Rec) : Bs := rs.foldl (back1 L) st
theorem backTo_snoc (L : Int → Bool) (st : Bs) (rs : List Rec) (r : Rec) : backTo L st (rs ++ [r]) = back1 L (backTo L st rs) r := by
  unfold backTo
  rw [List.foldl_append]
  rfl
theorem drop_rev {rs : List Rec} {k : Nat} (h : k < rs.length) : (rs.drop k).reverse = (rs.drop (k + 1)).reverse ++ [rs.getD k Rec.zero] := by
  rw [List.drop_eq_getElem_cons h, List.reverse_cons]
  simp [List.getD, h]
theorem back1_b {L : Int → Bool} {st : Bs} {r : Rec} {m : Int} (h : ∀ t, 0 ≤ st.b t ∧ st.b t ≤ m) : ∀ t, 0 ≤ (back1 L st r).b t ∧ (back1 L st r).b t ≤ m := by
  intro t
  unfold back1
  have h1 := h t
  have h2 := h r.tx
  split
  · exact h1
  · split
    · simp only
      split
      · rename_i e; subst e; omega
      · exact h1
    · exact h1
theorem backTo_b {L : Int → Bool} {m : Int} : ∀ (rs : List Rec) {st : Bs}, (∀ t, 0 ≤ st.b t ∧ st.b t ≤ m) → ∀ t, 0 ≤ (backTo L st rs).b t ∧ (backTo L st rs).b t ≤ m := by
  intro rs
  induction rs with
  | nil => intro st h; exact h
  | cons r rs ih => intro st h; exact ih (back1_b h)
/-- What is there behind all records. -/
def endS (base : List Row) (rs : List Rec) : Bs := backTo (fun t => (fate rs t).lost) ⟨redoTo (baseTo base base.length) rs rs.length, fun t => (fate rs t).bk⟩ rs.reverse
def redoR (base : List Row) (rs : List Rec) : Int × List Int × List Row :=
  if recsF rs != 0 then (recsF rs, [], []) else if baseF base != 0 then (baseF base, [], []) else (0, losL rs, rowsS (endS base rs).s)
theorem redoR_bad {base : List Row} {rs : List Rec} {c : Int} (h : recsF rs = c) (hc : (c != 0) = true) : redoR base rs = (c, [], []) := by unfold redoR; rw [h, if_pos hc]
theorem redoR_base {base : List Row} {rs : List Rec} {c : Int} (h0 : recsF rs = 0) (h : baseF base = c) (hc : (c != 0) = true) : redoR base rs = (c, [], []) := by unfold redoR; rw [h0, h, if_neg (by simp), if_pos hc]
theorem redoR_ok {base : List Row} {rs : List Rec} (h0 : recsF rs = 0) (h : baseF base = 0) : redoR base rs = (0, losL rs, rowsS (endS base rs).s) := by unfold redoR; rw [h0, h]; rfl
end Go.Proofs.Ytlpncikiaojmiaa.Ch
