
/- Plain mathematics of chapter 13: what becomes of a transaction, who lost: no Go in it. -/
import Derived.Test.YtlpncikiaojmiaaRvM
namespace Go.Proofs.Ytlpncikiaojmiaa.Ch

structure Ft where
  bg : Bool
  en : Bool
  bk : Int
def Ft.zero : Ft := ⟨false, false, 0⟩
def Ft.lost (f : Ft) : Bool := f.bg && !f.en
def Ft.step (f : Ft) (kd : Int) : Ft := if kd == 1 then ⟨true, f.en, f.bk⟩ else if kd == 3 then ⟨f.bg, f.en, f.bk + 1⟩ else if kd == 4 || kd == 5 then ⟨f.bg, true, f.bk⟩ else f
/-- What records tell of a transaction. -/
def fate (rs : List Rec) (t : Int) : Ft := rs.foldl (fun f r => if r.tx == t then f.step r.kd else f) Ft.zero

theorem fate_same {rs : List Rec} {k : Nat} (hk : k < rs.length) : fate (rs.take (k + 1)) (rs.getD k Rec.zero).tx = (fate (rs.take k) (rs.getD k Rec.zero).tx).step (rs.getD k Rec.zero).kd := by
  unfold fate
  rw [take_snocR rs k hk, List.foldl_append]
  simp
theorem fate_other {rs : List Rec} {k : Nat} (hk : k < rs.length) {t : Int} (h : t ≠ (rs.getD k Rec.zero).tx) : fate (rs.take (k + 1)) t = fate (rs.take k) t := by
  unfold fate
  rw [take_snocR rs k hk, List.foldl_append]
  have h' : ¬ (rs.getD k Rec.zero).tx = t := fun e => h e.symm
  simp only [List.foldl_cons, List.foldl_nil, beq_iff_eq]
  rw [if_neg h']

theorem has_step (l : List Int) (r : Rec) (kd t : Int) : (if r.kd == kd && !l.contains r.tx then l ++ [r.tx] else l).contains t = (l.contains t || (r.kd == kd && r.tx == t)) := by
  by_cases h1 : (r.kd == kd) = true
  · by_cases h2 : l.contains r.tx = true
    · rw [h2]
      simp only [h1, Bool.not_true, Bool.and_false, Bool.true_and, if_neg (by simp : ¬ false = true)]
      by_cases h3 : r.tx = t
      · rw [← h3, h2]; rfl
      · have : (r.tx == t) = false := by simpa using h3
        rw [this, Bool.or_false]
    · have h2' : l.contains r.tx = false := by simpa using h2
      rw [h2', h1]
      simp only [Bool.not_false, Bool.and_self, if_true, Bool.true_and]
      rw [Bool.eq_iff_iff]
      simp only [List.contains_iff_mem, List.mem_append, List.mem_singleton, Bool.or_eq_true, beq_iff_eq]
      exact or_congr_right ⟨fun h => h.symm, fun h => h.symm⟩
  · have h1' : (r.kd == kd) = false := by simpa using h1
    rw [h1']
    simp
theorem kind_has (rs : List Rec) (kd t : Int) : ∀ l, (rs.foldl (fun l r => if r.kd == kd && !l.contains r.tx then l ++ [r.tx] else l) l).contains t = (l.contains t || rs.any (fun r => r.kd == kd && r.tx == t)) := by
  induction rs with
  | nil => intro l; simp
  | cons r rs ih =>
    intro l
    rw [List.foldl_cons, ih, has_step, List.any_cons, Bool.or_assoc]
theorem kindL_has (rs : List Rec) (kd t : Int) : (kindL rs kd).contains t = rs.any (fun r => r.kd == kd && r.tx == t) := by
  unfold kindL
  rw [kind_has]
  simp
theorem step_bg (f : Ft) (kd : Int) : (f.step kd).bg = (f.bg || kd == 1) := by
  unfold Ft.step
  by_cases h1 : kd = 1 <;> by_cases h3 : kd = 3 <;> by_cases h4 : kd = 4 <;> by_cases h5 : kd = 5 <;> simp_all
theorem step_en (f : Ft) (kd : Int) : (f.step kd).en = (f.en || (kd == 4 || kd == 5)) := by
  unfold Ft.step
  by_cases h1 : kd = 1 <;> by_cases h3 : kd = 3 <;> by_cases h4 : kd = 4 <;> by_cases h5 : kd = 5 <;> simp_all
theorem step_bk (f : Ft) (kd : Int) : (f.step kd).bk = f.bk + (if kd = 3 then 1 else 0) := by
  unfold Ft.step
  by_cases h1 : kd = 1 <;> by_cases h3 : kd = 3 <;> by_cases h4 : kd = 4 <;> by_cases h5 : kd = 5 <;> simp_all
theorem fate_gen (rs : List Rec) (t : Int) : ∀ f : Ft, (rs.foldl (fun f r => if r.tx == t then f.step r.kd else f) f).bg = (f.bg || rs.any (fun r => r.kd == 1 && r.tx == t)) ∧
    (rs.foldl (fun f r => if r.tx == t then f.step r.kd else f) f).en = (f.en || (rs.any (fun r => r.kd == 4 && r.tx == t) || rs.any (fun r => r.kd == 5 && r.tx == t))) := by
  induction rs with
  | nil => intro f; simp
  | cons r rs ih =>
    intro f
    rw [List.foldl_cons]
    obtain ⟨h1, h2⟩ := ih (if r.tx == t then f.step r.kd else f)
    rw [h1, h2]
    simp only [List.any_cons]
    cases ht : (r.tx == t)
    · simp
    · simp only [if_true, step_bg, step_en, Bool.and_true]
      refine ⟨by rw [Bool.or_assoc], ?_⟩
      cases f.en <;> cases (r.kd == 4) <;> cases (r.kd == 5) <;> simp
theorem lost_is (rs : List Rec) (t : Int) : (fate rs t).lost = ((kindL rs 1).contains t && !(kindL rs 4 ++ kindL rs 5).contains t) := by
  have h := fate_gen rs t Ft.zero
  have e : (kindL rs 4 ++ kindL rs 5).contains t = ((kindL rs 4).contains t || (kindL rs 5).contains t) := by
    rw [Bool.eq_iff_iff]; simp [List.mem_append]
  rw [e, kindL_has, kindL_has, kindL_has]
  unfold Ft.lost fate
  rw [h.1, h.2]
  simp [Ft.zero]
theorem bk_gen (rs : List Rec) (t : Int) : ∀ f : Ft, 0 ≤ f.bk → f.bk ≤ (rs.foldl (fun f r => if r.tx == t then f.step r.kd else f) f).bk ∧ (rs.foldl (fun f r => if r.tx == t then f.step r.kd else f) f).bk ≤ f.bk + rs.length := by
  induction rs with
  | nil => intro f _; simp
  | cons r rs ih =>
    intro f hf
    rw [List.foldl_cons]
    have hs := step_bk f r.kd
    cases ht : (r.tx == t)
    · have := ih f hf
      simp only [if_neg (by simp : ¬ false = true), List.length_cons] at this ⊢
      omega
    · have := ih (f.step r.kd) (by rw [hs]; split <;> omega)
      simp only [if_true, List.length_cons] at this ⊢
      rw [hs] at this
      split at this <;> omega
theorem fate_bk (rs : List Rec) (t : Int) : 0 ≤ (fate rs t).bk ∧ (fate rs t).bk ≤ rs.length := by
  have := bk_gen rs t Ft.zero (by simp [Ft.zero])
  simpa [Ft.zero, fate] using this

/-- Who lost, up to number m. -/
def losTo (rs : List Rec) (m : Nat) : List Int := ((List.range m).map (fun i : Nat => (i : Int) + 1)).filter (fun t => (fate rs t).lost)
def losL (rs : List Rec) : List Int := losTo rs 999
theorem losTo_yes {rs : List Rec} {m : Nat} (h : (fate rs ((m : Int) + 1)).lost = true) : losTo rs (m + 1) = losTo rs m ++ [(m : Int) + 1] := by
  unfold losTo
  rw [List.range_succ, List.map_append, List.filter_append]
  simp [h]
theorem losTo_no {rs : List Rec} {m : Nat} (h : (fate rs ((m : Int) + 1)).lost = false) : losTo rs (m + 1) = losTo rs m := by
  unfold losTo
  rw [List.range_succ, List.map_append, List.filter_append]
  simp [h]
theorem losL_mem (rs : List Rec) (t : Int) : t ∈ losL rs ↔ 1 ≤ t ∧ t ≤ 999 ∧ (fate rs t).lost = true := by
  unfold losL losTo
  simp only [List.mem_filter, List.mem_map, List.mem_range]
  constructor
  · rintro ⟨⟨i, hi, rfl⟩, h⟩
    exact ⟨by omega, by omega, h⟩
  · rintro ⟨h1, h2, h⟩
    exact ⟨⟨(t - 1).toNat, by omega, by omega⟩, h⟩
theorem losL_sorted (rs : List Rec) : (losL rs).Pairwise (· < ·) := by
  unfold losL losTo
  apply List.Pairwise.filter
  rw [List.pairwise_map]
  exact List.Pairwise.imp (fun h => by omega) List.pairwise_lt_range
/-- Lists that have the same numbers, each once, sorted: the same list. -/
theorem sort_is {zs ys : List Int} (hz : zs.Nodup) (hy : ys.Pairwise (· < ·)) (h : ∀ t, t ∈ zs ↔ t ∈ ys) : (zs.mergeSort fun x y => decide (x ≤ y)) = ys := by
  have hp : (zs.mergeSort fun x y => decide (x ≤ y)).Perm ys := by
    refine (List.mergeSort_perm _ _).trans ?_
    refine (List.perm_ext_iff_of_nodup hz ?_).2 h
    exact hy.imp (fun h e => by omega)
  refine hp.eq_of_pairwise (le := fun x y => x ≤ y) ?_ ?_ ?_
  · intro a b _ _ h1 h2; omega
  · have := List.pairwise_mergeSort (le := fun x y : Int => decide (x ≤ y)) (fun a b c h1 h2 => by simp at *; omega) (fun a b => by simp; omega) zs
    exact this.imp (fun h => by simpa using h)
  · exact hy.imp (fun h => by omega)
/-- LosersOf. -/
def losR (rs : List Rec) : Int × List Int := if recsF rs != 0 then (recsF rs, []) else (0, losL rs)
theorem losR_bad {rs : List Rec} {c : Int} (h : recsF rs = c) (hc : (c != 0) = true) : losR rs = (c, []) := by unfold losR; rw [h, if_pos hc]
theorem losR_ok {rs : List Rec} (h : recsF rs = 0) : losR rs = (0, losL rs) := by unfold losR; rw [h]; rfl
theorem losL_len (rs : List Rec) : (losL rs).length ≤ 999 := by
  unfold losL losTo
  exact Nat.le_trans (List.length_filter_le _ _) (by simp)
theorem losTo_len (rs : List Rec) (m : Nat) : (losTo rs m).length ≤ m := by
  unfold losTo
  exact Nat.le_trans (List.length_filter_le _ _) (by simp)
end Go.Proofs.Ytlpncikiaojmiaa.Ch
