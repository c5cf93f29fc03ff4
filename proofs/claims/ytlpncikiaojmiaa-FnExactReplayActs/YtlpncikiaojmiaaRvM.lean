
/- Plain mathematics of chapter 13: faults of records, transactions of a kind: no Go in it. -/
import Derived.Test.YtlpncikiaojmiaaRecM
namespace Go.Proofs.Ytlpncikiaojmiaa.Ch

/-- The first code among the first k records. -/
def recsAt (rs : List Rec) (k : Nat) : Int := ((rs.take k).map Rec.fault).foldl (fun c f => if c != 0 then c else f) 0
def recsF (rs : List Rec) : Int := if 800 < rs.length then 2 else recsAt rs rs.length

theorem take_snocR (rs : List Rec) (k : Nat) (h : k < rs.length) : rs.take (k + 1) = rs.take k ++ [rs.getD k Rec.zero] := by
  rw [List.take_add_one, List.getElem?_eq_getElem h]
  simp [List.getD, h]
theorem recsAt_step {rs : List Rec} {k : Nat} (hk : k < rs.length) (h : recsAt rs k = 0) : recsAt rs (k + 1) = (rs.getD k Rec.zero).fault := by
  unfold recsAt at *
  rw [take_snocR rs k hk, List.map_append, List.foldl_append, h]
  rfl
theorem foldl_stays (l : List Int) (c : Int) (h : (c != 0) = true) : l.foldl (fun c f => if c != 0 then c else f) c = c := by
  induction l with
  | nil => rfl
  | cons f l ih => simp only [List.foldl_cons]; rw [if_pos h]; exact ih
theorem recsAt_stays {rs : List Rec} {k : Nat} {c : Int} (h : recsAt rs (k + 1) = c) (hc : (c != 0) = true) : recsAt rs rs.length = c := by
  unfold recsAt at *
  rw [List.take_length]
  conv => lhs; rw [← List.take_append_drop (k + 1) rs]
  rw [List.map_append, List.foldl_append, h]
  exact foldl_stays _ _ hc
theorem recsF_many {rs : List Rec} (h : 800 < rs.length) : recsF rs = 2 := if_pos h
theorem recsF_few {rs : List Rec} (h : ¬ 800 < rs.length) : recsF rs = recsAt rs rs.length := if_neg h
theorem recsAt_zero {rs : List Rec} (h : recsAt rs rs.length = 0) : ∀ k, k < rs.length → (rs.getD k Rec.zero).fault = 0 := by
  intro k hk
  have key : ∀ m, m ≤ rs.length → recsAt rs m = 0 := by
    intro m hm
    rcases Int.decEq (recsAt rs m) 0 with h0 | h0
    · exfalso
      cases m with
      | zero => exact h0 rfl
      | succ m => 
        have := recsAt_stays (rs := rs) (k := m) rfl (by simpa using h0)
        rw [h] at this
        exact h0 this.symm
    · exact h0
  rw [← recsAt_step hk (key k (by omega))]
  exact key (k + 1) (by omega)
theorem recsF_zero {rs : List Rec} (h : recsF rs = 0) : rs.length ≤ 800 ∧ ∀ k, k < rs.length → (rs.getD k Rec.zero).fault = 0 := by
  by_cases h8 : 800 < rs.length
  · rw [recsF_many h8] at h; omega
  · rw [recsF_few h8] at h
    exact ⟨by omega, recsAt_zero h⟩

/-- The transactions of a kind of records, in order, each once. -/
def kindL (rs : List Rec) (kd : Int) : List Int := rs.foldl (fun l r => if r.kd == kd && !l.contains r.tx then l ++ [r.tx] else l) []
theorem kindL_step {rs : List Rec} {k : Nat} (hk : k < rs.length) (kd : Int) : kindL (rs.take (k + 1)) kd = if (rs.getD k Rec.zero).kd == kd && !(kindL (rs.take k) kd).contains (rs.getD k Rec.zero).tx then kindL (rs.take k) kd ++ [(rs.getD k Rec.zero).tx] else kindL (rs.take k) kd := by
  unfold kindL
  rw [take_snocR rs k hk, List.foldl_append]
  rfl
theorem kindL_yes {rs : List Rec} {k : Nat} (hk : k < rs.length) {kd : Int} (h1 : ((rs.getD k Rec.zero).kd == kd) = true) (h2 : (kindL (rs.take k) kd).contains (rs.getD k Rec.zero).tx = false) : kindL (rs.take (k + 1)) kd = kindL (rs.take k) kd ++ [(rs.getD k Rec.zero).tx] := by
  rw [kindL_step hk, h1, h2]; rfl
theorem kindL_had {rs : List Rec} {k : Nat} (hk : k < rs.length) {kd : Int} (h2 : (kindL (rs.take k) kd).contains (rs.getD k Rec.zero).tx = true) : kindL (rs.take (k + 1)) kd = kindL (rs.take k) kd := by
  rw [kindL_step hk, h2]; simp
theorem kindL_no {rs : List Rec} {k : Nat} (hk : k < rs.length) {kd : Int} (h1 : ((rs.getD k Rec.zero).kd == kd) = false) : kindL (rs.take (k + 1)) kd = kindL (rs.take k) kd := by
  rw [kindL_step hk, h1]; simp
theorem kindL_len (rs : List Rec) (kd : Int) : ∀ k, k ≤ rs.length → (kindL (rs.take k) kd).length ≤ k := by
  intro k
  induction k with
  | zero => intro _; simp [kindL]
  | succ k ih =>
    intro hk
    have := ih (by omega)
    rw [kindL_step (by omega)]
    split
    · simp; omega
    · omega

/-- CommittedOf. -/
def comR (rs : List Rec) : Int × List Int := if recsF rs != 0 then (recsF rs, []) else (0, kindL rs 4)
theorem comR_bad {rs : List Rec} {c : Int} (h : recsF rs = c) (hc : (c != 0) = true) : comR rs = (c, []) := by unfold comR; rw [h, if_pos hc]
theorem comR_ok {rs : List Rec} (h : recsF rs = 0) : comR rs = (0, kindL rs 4) := by unfold comR; rw [h]; rfl
end Go.Proofs.Ytlpncikiaojmiaa.Ch
