
/- Plain edges: their faults, those without one transaction; who gives way. -/
import Derived.Test.YtmolddlmjojceaaLkM
namespace Go.Proofs.Ytmolddlmjojceaa

def Ch.badE (e : Ch.Hold) : Bool := !Ch.inB e.t 1 999 || !Ch.inB e.m 1 999 || e.t == e.m
def Ch.edgesFault (es : List Ch.Hold) : Int := if 400 < es.length then 2 else if es.any Ch.badE then 3 else 0
def Ch.edgesT (es : List Ch.Hold) (t : Int) : Int := if Ch.edgesFault es != 0 then Ch.edgesFault es else if Ch.inB t 1 999 then 0 else 3
def Ch.keepE (t : Int) (e : Ch.Hold) : Bool := e.t != t && e.m != t
def Ch.withoutE (es : List Ch.Hold) (t : Int) : List Ch.Hold := es.filter (Ch.keepE t)
def Ch.withoutR (es : List Ch.Hold) (t : Int) : Int × List Ch.Hold := if Ch.edgesT es t != 0 then (Ch.edgesT es t, []) else (0, Ch.withoutE es t)
theorem Ch.withoutR_bad {es : List Ch.Hold} {t c : Int} (h : Ch.edgesT es t = c) (h0 : c ≠ 0) : Ch.withoutR es t = (c, []) := by
  unfold Ch.withoutR; rw [h, if_pos (by simpa using h0)]
theorem Ch.withoutR_ok {es : List Ch.Hold} {t : Int} (h : Ch.edgesT es t = 0) : Ch.withoutR es t = (0, Ch.withoutE es t) := by
  unfold Ch.withoutR; rw [h]; rfl
theorem Ch.edgesT_many {es : List Ch.Hold} {t : Int} (h : Ch.edgesT es t = 0) : es.length ≤ 400 := by
  unfold Ch.edgesT Ch.edgesFault at h
  by_cases h4 : 400 < es.length
  · rw [if_pos h4] at h; simp at h
  · omega
theorem Ch.any_bad {es : List Ch.Hold} {k : Nat} (hk : k < es.length) (h : Ch.badE (es.getD k Ch.Hold.zero) = true) : es.any Ch.badE = true := by
  rw [List.any_eq_true]
  exact ⟨_, by simp [List.getD, hk], h⟩
theorem Ch.any_take {es : List Ch.Hold} {k : Nat} (hk : k < es.length) (h0 : (es.take k).any Ch.badE = false) (h : Ch.badE (es.getD k Ch.Hold.zero) = false) : (es.take (k + 1)).any Ch.badE = false := by
  rw [Ch.take_snoc es Ch.Hold.zero k hk, List.any_append, h0]
  simp only [List.any_cons, List.any_nil, Bool.or_false, Bool.false_or]
  exact h
theorem Ch.withoutE_yes {es : List Ch.Hold} {t : Int} {k : Nat} (hk : k < es.length) (h : Ch.keepE t (es.getD k Ch.Hold.zero) = true) : Ch.withoutE (es.take (k + 1)) t = Ch.withoutE (es.take k) t ++ [es.getD k Ch.Hold.zero] := by
  unfold Ch.withoutE
  rw [Ch.take_snoc es Ch.Hold.zero k hk, List.filter_append]
  generalize es.getD k Ch.Hold.zero = l at *
  simp [h]
theorem Ch.withoutE_no {es : List Ch.Hold} {t : Int} {k : Nat} (hk : k < es.length) (h : Ch.keepE t (es.getD k Ch.Hold.zero) = false) : Ch.withoutE (es.take (k + 1)) t = Ch.withoutE (es.take k) t := by
  unfold Ch.withoutE
  rw [Ch.take_snoc es Ch.Hold.zero k hk, List.filter_append]
  generalize es.getD k Ch.Hold.zero = l at *
  simp [h]

/-- The greatest of numbers above 0; 0 without one. -/
def Ch.maxL (zs : List Int) : Int := zs.foldl max 0
theorem Ch.maxL_snoc (zs : List Int) (v : Int) : Ch.maxL (zs ++ [v]) = max (Ch.maxL zs) v := by simp [Ch.maxL]
theorem Ch.maxL_nil : Ch.maxL [] = 0 := rfl
theorem Ch.foldMax_ge (zs : List Int) (b : Int) : b ≤ zs.foldl max b := by
  induction zs generalizing b with
  | nil => exact Int.le_refl _
  | cons z zs ih => have := ih (max b z); simp only [List.foldl_cons]; omega
theorem Ch.foldMax_le (zs : List Int) (b : Int) : ∀ v ∈ zs, v ≤ zs.foldl max b := by
  induction zs generalizing b with
  | nil => intro v hv; simp at hv
  | cons z zs ih =>
    intro v hv
    simp only [List.foldl_cons]
    rcases List.mem_cons.1 hv with rfl | hv
    · have := Ch.foldMax_ge zs (max b v); omega
    · exact ih _ v hv
theorem Ch.foldMax_mem (zs : List Int) (b : Int) : zs.foldl max b = b ∨ zs.foldl max b ∈ zs := by
  induction zs generalizing b with
  | nil => exact Or.inl rfl
  | cons z zs ih =>
    simp only [List.foldl_cons]
    rcases ih (max b z) with h | h
    · rw [h]
      by_cases hz : z ≤ b
      · left; omega
      · right; rw [show max b z = z by omega]; simp
    · right; exact List.mem_cons_of_mem _ h
theorem Ch.maxL_le {zs : List Int} {v : Int} (h : v ∈ zs) : v ≤ Ch.maxL zs := Ch.foldMax_le zs 0 v h
theorem Ch.maxL_ge (zs : List Int) : 0 ≤ Ch.maxL zs := Ch.foldMax_ge zs 0
theorem Ch.maxL_mem (zs : List Int) : Ch.maxL zs = 0 ∨ Ch.maxL zs ∈ zs := Ch.foldMax_mem zs 0
theorem Ch.maxL_same {a b : List Int} (h : ∀ v, v ∈ a ↔ v ∈ b) : Ch.maxL a = Ch.maxL b := by
  have h1 : Ch.maxL a ≤ Ch.maxL b := by
    rcases Ch.maxL_mem a with e | e
    · rw [e]; exact Ch.maxL_ge b
    · exact Ch.maxL_le ((h _).1 e)
  have h2 : Ch.maxL b ≤ Ch.maxL a := by
    rcases Ch.maxL_mem b with e | e
    · rw [e]; exact Ch.maxL_ge a
    · exact Ch.maxL_le ((h _).2 e)
  omega
theorem Ch.maxL_first (z : Int) (zs : List Int) (h : 0 ≤ z) : zs.foldl max z = Ch.maxL (z :: zs) := by
  unfold Ch.maxL
  rw [List.foldl_cons, show max 0 z = z by omega]

/-- Who gives way: as the program finds it. -/
def Ch.both (cyc sys : List Int) : Int := Ch.maxL (sys.filter fun v => cyc.contains v)
def Ch.victim (cyc sys : List Int) : Int := if Ch.inB (Ch.both cyc sys) 1 999 then Ch.both cyc sys else Ch.maxL cyc
def Ch.victimR (cyc sys : List Int) : Int × Int := if cyc.length = 0 then (4, 0) else if cyc.any (fun v => !Ch.inB v 1 999) then (3, 0) else (0, Ch.victim cyc sys)
/-- As the model finds it: the best one so far, and whether it is of the system. -/
def Ch.vicStep (sys : List Int) (p : Int × Bool) (v : Int) : Int × Bool :=
  if (sys.contains v && !p.2) || ((sys.contains v == p.2) && decide (p.1 < v)) then (v, sys.contains v) else p
def Ch.vicF (cyc sys : List Int) : Int × Bool := cyc.foldl (Ch.vicStep sys) (0, false)
theorem Ch.vicF_snoc (cyc sys : List Int) (v : Int) : Ch.vicF (cyc ++ [v]) sys = Ch.vicStep sys (Ch.vicF cyc sys) v := by simp [Ch.vicF]

set_option linter.unusedSimpArgs false in
theorem Ch.vicF_is (cyc sys : List Int) (hc : ∀ v ∈ cyc, 1 ≤ v) : Ch.vicF cyc sys = if cyc.any (fun v => sys.contains v) then (Ch.maxL (cyc.filter fun v => sys.contains v), true) else (Ch.maxL cyc, false) := by
  suffices H : ∀ (done todo : List Int), cyc = done ++ todo → Ch.vicF done sys = if done.any (fun v => sys.contains v) then (Ch.maxL (done.filter fun v => sys.contains v), true) else (Ch.maxL done, false) by
    exact H cyc [] (by simp)
  intro done
  induction hd : done.length generalizing done with
  | zero =>
    intro todo _
    have : done = [] := List.eq_nil_of_length_eq_zero hd
    subst this
    rfl
  | succ n ih =>
    intro todo e
    have hne : done ≠ [] := by intro h; rw [h] at hd; simp at hd
    obtain ⟨ds, v, rfl⟩ : ∃ ds v, done = ds ++ [v] := ⟨done.dropLast, done.getLast hne, (List.dropLast_concat_getLast hne).symm⟩
    have ih := ih ds (by simpa using hd) (v :: todo) (by simpa using e)
    have hv : 1 ≤ v := hc v (by rw [e]; simp)
    have hg := Ch.maxL_ge (ds.filter fun v => sys.contains v)
    rw [Ch.vicF_snoc, ih, List.any_append, List.filter_append, Ch.maxL_snoc]
    unfold Ch.vicStep
    cases hs : sys.contains v
    · cases ha : ds.any (fun v => sys.contains v)
      · simp only [hs, List.any_cons, List.any_nil, Bool.or_false, Bool.false_eq_true, if_false, List.filter_cons, List.filter_nil, List.append_nil, Bool.false_and, Bool.false_or, Bool.not_false, Bool.and_false]
        by_cases hl : Ch.maxL ds < v
        · simp only [hl, decide_true, beq_self_eq_true, Bool.and_self, if_true]; rw [show max (Ch.maxL ds) v = v by omega]
        · simp only [hl, decide_false, Bool.and_false, Bool.false_eq_true, if_false]; rw [show max (Ch.maxL ds) v = Ch.maxL ds by omega]
      · have hns : v ∉ sys := by simpa using hs
        simp [hns, List.filter_cons]
    · cases ha : ds.any (fun v => sys.contains v)
      · have hz : ds.filter (fun v => sys.contains v) = [] := by
          rw [List.filter_eq_nil_iff]
          intro x hx hh
          rw [List.any_eq_false] at ha
          exact absurd hh (by simpa using ha x hx)
        have h1 : max 0 v = v := by omega
        simp only [hs, hz, List.any_cons, List.any_nil, List.filter_cons, List.filter_nil, if_true, List.nil_append, Bool.or_false, Bool.or_true, Bool.false_eq_true, if_false, Bool.true_and, Bool.not_false, Bool.true_or]
        simp [Ch.maxL, h1]
      · simp only [hs, List.any_cons, List.any_nil, List.filter_cons, List.filter_nil, if_true, Bool.or_false, Bool.or_true, Bool.not_true, Bool.and_false, Bool.false_or, beq_self_eq_true, Bool.true_and]
        rw [Ch.maxL_snoc]
        by_cases hl : Ch.maxL (ds.filter fun v => sys.contains v) < v
        · simp only [hl, decide_true, if_true]; rw [show max (Ch.maxL (ds.filter fun v => sys.contains v)) v = v by omega]
        · simp only [hl, decide_false, Bool.false_eq_true, if_false]; rw [show max (Ch.maxL (ds.filter fun v => sys.contains v)) v = Ch.maxL (ds.filter fun v => sys.contains v) by omega]

theorem Ch.both_is (cyc sys : List Int) : Ch.both cyc sys = Ch.maxL (cyc.filter fun v => sys.contains v) := by
  refine Ch.maxL_same fun v => ?_
  simp only [List.mem_filter, List.contains_iff_mem]
  exact And.comm
theorem Ch.inB_iff (v a b : Int) : Ch.inB v a b = true ↔ a ≤ v ∧ v ≤ b := by simp [Ch.inB]
theorem Ch.victim_is (cyc sys : List Int) (hc : ∀ v ∈ cyc, Ch.inB v 1 999 = true) : (Ch.vicF cyc sys).1 = Ch.victim cyc sys := by
  have hc' : ∀ v ∈ cyc, 1 ≤ v ∧ v ≤ 999 := fun v hv => (Ch.inB_iff v 1 999).1 (hc v hv)
  rw [Ch.vicF_is cyc sys (fun v hv => (hc' v hv).1)]
  unfold Ch.victim
  rw [Ch.both_is]
  cases ha : cyc.any (fun v => sys.contains v)
  · have hz : cyc.filter (fun v => sys.contains v) = [] := by
      rw [List.filter_eq_nil_iff]
      intro x hx hh
      rw [List.any_eq_false] at ha
      exact absurd hh (by simpa using ha x hx)
    rw [hz]
    rfl
  · obtain ⟨x, hx, hs⟩ := List.any_eq_true.1 ha
    have hm : x ∈ cyc.filter (fun v => sys.contains v) := List.mem_filter.2 ⟨hx, hs⟩
    have h1 := Ch.maxL_le hm
    have h2 := (hc' x hx).1
    rcases Ch.maxL_mem (cyc.filter fun v => sys.contains v) with e | e
    · omega
    · have h3 := (hc' _ (List.mem_filter.1 e).1).2
      rw [if_pos rfl, if_pos ((Ch.inB_iff _ _ _).2 ⟨by omega, h3⟩)]
end Go.Proofs.Ytmolddlmjojceaa
