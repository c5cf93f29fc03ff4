/- Plain acts, and what is wrong with them. -/
import Derived.Test.YtlpncikiaojmiaaTchM
namespace Go.Proofs.Ytlpncikiaojmiaa

/-- An act, plainly. -/
structure Ch.Ac where
  tx : Int
  k : Int
  a : Int
  b : Int
  v : Int
  an : List Int
def Ch.Ac.zero : Ch.Ac := ⟨0, 0, 0, 0, 0, []⟩
def Ch.acAt (ts : List Ch.Ac) (k : Nat) : Ch.Ac := ts.getD k Ch.Ac.zero
/-- What is wrong with an act. -/
def Ch.Ac.fault (t : Ch.Ac) : Int := if Ch.inB t.tx 1 999 = false then 3 else Ch.opFault t.k t.a t.b t.v

/-- The first code among the first k acts. -/
def Ch.acsAt (rs : List Ch.Ac) (k : Nat) : Int := ((rs.take k).map Ch.Ac.fault).foldl (fun c f => if c != 0 then c else f) 0
def Ch.acsF (rs : List Ch.Ac) : Int := if 220 < rs.length then 2 else Ch.acsAt rs rs.length

theorem Ch.take_snocA (rs : List Ch.Ac) (k : Nat) (h : k < rs.length) : rs.take (k + 1) = rs.take k ++ [Ch.acAt rs k] := by
  rw [List.take_add_one, List.getElem?_eq_getElem h]
  simp [Ch.acAt, List.getD, h]
theorem Ch.acsAt_step {rs : List Ch.Ac} {k : Nat} (hk : k < rs.length) (h : Ch.acsAt rs k = 0) : Ch.acsAt rs (k + 1) = (Ch.acAt rs k).fault := by
  unfold Ch.acsAt at *
  rw [Ch.take_snocA rs k hk, List.map_append, List.foldl_append, h]
  rfl
theorem Ch.foldl_staysA (l : List Int) (c : Int) (h : (c != 0) = true) : l.foldl (fun c f => if c != 0 then c else f) c = c := by
  induction l with
  | nil => rfl
  | cons f l ih => simp only [List.foldl_cons]; rw [if_pos h]; exact ih
theorem Ch.acsAt_stays {rs : List Ch.Ac} {k : Nat} {c : Int} (h : Ch.acsAt rs (k + 1) = c) (hc : (c != 0) = true) : Ch.acsAt rs rs.length = c := by
  unfold Ch.acsAt at *
  rw [List.take_length]
  conv => lhs; rw [← List.take_append_drop (k + 1) rs]
  rw [List.map_append, List.foldl_append, h]
  exact Ch.foldl_staysA _ _ hc
theorem Ch.acsF_many {rs : List Ch.Ac} (h : 220 < rs.length) : Ch.acsF rs = 2 := if_pos h
theorem Ch.acsF_few {rs : List Ch.Ac} (h : ¬ 220 < rs.length) : Ch.acsF rs = Ch.acsAt rs rs.length := if_neg h
theorem Ch.acsAt_zero {rs : List Ch.Ac} (h : Ch.acsAt rs rs.length = 0) : ∀ k, k < rs.length → (Ch.acAt rs k).fault = 0 := by
  intro k hk
  have key : ∀ m, m ≤ rs.length → Ch.acsAt rs m = 0 := by
    intro m hm
    rcases Int.decEq (Ch.acsAt rs m) 0 with h0 | h0
    · exfalso
      cases m with
      | zero => exact h0 rfl
      | succ m =>
        have := Ch.acsAt_stays (rs := rs) (k := m) rfl (by simpa using h0)
        rw [h] at this
        exact h0 this.symm
    · exact h0
  rw [← Ch.acsAt_step hk (key k (by omega))]
  exact key (k + 1) (by omega)
theorem Ch.acsF_zero {rs : List Ch.Ac} (h : Ch.acsF rs = 0) : rs.length ≤ 220 ∧ ∀ k, k < rs.length → (Ch.acAt rs k).fault = 0 := by
  by_cases h8 : 220 < rs.length
  · rw [Ch.acsF_many h8] at h; omega
  · rw [Ch.acsF_few h8] at h
    exact ⟨by omega, Ch.acsAt_zero h⟩

/-- What acts take of the size that is left. -/
def Ch.acSize (ls : List Ch.Ac) : Nat := ls.length + (ls.map (·.an.length)).sum
theorem Ch.ac_take (ls : List Ch.Ac) (k : Nat) (h : k < ls.length) : ((ls.take (k + 1)).map (·.an.length)).sum = ((ls.take k).map (·.an.length)).sum + (Ch.acAt ls k).an.length := by
  rw [Ch.take_snocA ls k h]; simp
theorem Ch.ac_le (ls : List Ch.Ac) (k : Nat) : ((ls.take k).map (·.an.length)).sum ≤ (ls.map (·.an.length)).sum := by
  induction ls generalizing k with
  | nil => simp
  | cons l ls ih =>
    cases k with
    | zero => simp
    | succ k => have := ih k; simp only [List.take_succ_cons, List.map_cons, List.sum_cons]; omega
theorem Ch.ac_one {ls : List Ch.Ac} {N : Nat} (h : Ch.acSize ls ≤ N) (i : Nat) : (Ch.acAt ls i).an.length ≤ N := by
  by_cases hi : i < ls.length
  · have h1 := Ch.ac_take ls i hi
    have h2 := Ch.ac_le ls (i + 1)
    unfold Ch.acSize at h
    omega
  · simp [Ch.acAt, List.getD, List.getElem?_eq_none (show ls.length ≤ i by omega), Ch.Ac.zero]
end Go.Proofs.Ytlpncikiaojmiaa
