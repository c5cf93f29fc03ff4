
/- Plain: a new store. -/
import Derived.Test.YtlpncikiaojmiaaMapM
import Derived.Test.YtlpncikiaojmiaaLvsM
import Derived.Test.YtlpncikiaojmiaaPutN
namespace Go.Proofs.Ytlpncikiaojmiaa

/-- What is wrong with the rows that a store is to begin with. -/
def Ch.baseF (rs : List Ch.Row) : Int := if Ch.mapF rs != 0 then Ch.mapF rs else if (Ch.noGhost rs).length < rs.length then 1 else 0
/-- The leaves behind so many rows. -/
def Ch.putN (rs : List Ch.Row) : Nat → List (List Ch.Row)
  | 0 => []
  | k + 1 => Ch.put (Ch.putN rs k) (rs.getD k Ch.Row.zero)
/-- There is room for so many rows. -/
def Ch.roomN (rs : List Ch.Row) (k : Nat) : Prop := ∀ j, j ≤ k → (Ch.putN rs j).length ≤ 60
def Ch.roomB (rs : List Ch.Row) (k : Nat) : Bool := (List.range (k + 1)).all (fun j => decide ((Ch.putN rs j).length ≤ 60))
theorem Ch.roomB_iff (rs : List Ch.Row) (k : Nat) : Ch.roomB rs k = true ↔ Ch.roomN rs k := by
  unfold Ch.roomB Ch.roomN
  simp only [List.all_eq_true, List.mem_range, decide_eq_true_eq]
  exact ⟨fun h j hj => h j (by omega), fun h j hj => h j (by omega)⟩
def Ch.newR (rs : List Ch.Row) : Int × List Ch.Row × List (List Ch.Row) :=
  if Ch.baseF rs != 0 then (Ch.baseF rs, [], []) else if Ch.roomB rs rs.length then (0, rs, Ch.putN rs rs.length) else (2, [], [])
theorem Ch.newR_bad {rs : List Ch.Row} {c : Int} (h : Ch.baseF rs = c) (h0 : (c != 0) = true) : Ch.newR rs = (c, [], []) := by unfold Ch.newR; rw [h, if_pos h0]
theorem Ch.newR_ok {rs : List Ch.Row} (h : Ch.baseF rs = 0) (hr : Ch.roomN rs rs.length) : Ch.newR rs = (0, rs, Ch.putN rs rs.length) := by
  unfold Ch.newR
  rw [h, if_neg (by simp), if_pos ((Ch.roomB_iff _ _).2 hr)]
theorem Ch.newR_many {rs : List Ch.Row} {k : Nat} (h : Ch.baseF rs = 0) (hk : k < rs.length) (hl : 60 < (Ch.putN rs (k + 1)).length) : Ch.newR rs = (2, [], []) := by
  unfold Ch.newR
  rw [h, if_neg (by simp), if_neg (fun hr => by have := (Ch.roomB_iff _ _).1 hr (k + 1) (by omega); omega)]
theorem Ch.base_zero {rs : List Ch.Row} (h : Ch.baseF rs = 0) : Ch.mapF rs = 0 ∧ rs.length ≤ 240 ∧ ∀ k, k < rs.length → (rs.getD k Ch.Row.zero).fault = 0 := by
  have h1 : Ch.mapF rs = 0 := by
    unfold Ch.baseF at h
    by_cases h0 : (Ch.mapF rs != 0) = true
    · rw [if_pos h0] at h; exact h
    · simpa using h0
  refine ⟨h1, Ch.mapF_len h1, fun k hk => ?_⟩
  have h2 : Ch.eachF rs = 0 := by
    unfold Ch.mapF at h1
    by_cases h3 : 240 < rs.length
    · rw [if_pos h3] at h1; omega
    · rw [if_neg h3] at h1
      by_cases h4 : (Ch.eachF rs != 0) = true
      · rw [if_pos h4] at h1; exact h1
      · simpa using h4
  have := Ch.each_getD h2 k hk
  simpa using this
theorem Ch.base_map {rs : List Ch.Row} {c : Int} (h : Ch.mapF rs = c) (h0 : (c != 0) = true) : Ch.baseF rs = c := by unfold Ch.baseF; rw [h, if_pos h0]
theorem Ch.base_ghost {rs : List Ch.Row} (h : Ch.mapF rs = 0) (h1 : (Ch.noGhost rs).length < rs.length) : Ch.baseF rs = 1 := by unfold Ch.baseF; rw [h, if_neg (by simp), if_pos h1]
theorem Ch.base_fine {rs : List Ch.Row} (h : Ch.mapF rs = 0) (h1 : ¬ (Ch.noGhost rs).length < rs.length) : Ch.baseF rs = 0 := by unfold Ch.baseF; rw [h, if_neg (by simp), if_neg h1]
/-- The leaves have no fault as long as there is room. -/
theorem Ch.putN_good {rs : List Ch.Row} (h : Ch.baseF rs = 0) : ∀ k, k ≤ rs.length → Ch.roomN rs k → Ch.leavesFault (Ch.putN rs k) = 0 := by
  intro k
  induction k with
  | zero => intro _ _; rfl
  | succ k ih =>
    intro hk hr
    have h1 := ih (by omega) (fun j hj => hr j (by omega))
    exact Ch.put_good h1 ((Ch.base_zero h).2.2 k (by omega)) (hr (k + 1) (Nat.le_refl _))
theorem Ch.room_zero (rs : List Ch.Row) : Ch.roomN rs 0 := fun j hj => by
  have : j = 0 := by omega
  subst this
  simp [Ch.putN]
theorem Ch.room_next {rs : List Ch.Row} {k : Nat} (h : Ch.roomN rs k) (hl : ¬ 60 < (Ch.putN rs (k + 1)).length) : Ch.roomN rs (k + 1) := fun j hj => by
  by_cases he : j = k + 1
  · subst he; omega
  · exact h j (by omega)
theorem Ch.putR_step {rs : List Ch.Row} {k : Nat} (h : Ch.baseF rs = 0) (hk : k < rs.length) (hr : Ch.roomN rs k) : Ch.putR (Ch.putN rs k) (rs.getD k Ch.Row.zero) = if 60 < (Ch.putN rs (k + 1)).length then (2, []) else (0, Ch.putN rs (k + 1)) := by
  have h1 := Ch.putN_good h k (by omega) hr
  have h2 := (Ch.base_zero h).2.2 k hk
  unfold Ch.putR
  rw [h1, h2]
  rfl
theorem Ch.good_size {ls : List (List Ch.Row)} (h : Ch.leavesFault ls = 0) : Ch.lvSize ls ≤ 1000 := by
  obtain ⟨h1, h2, _⟩ := (Ch.good_iff ls).1 h
  have := Ch.sum_le ls 4 (fun x hx => (h2 x hx).2)
  unfold Ch.lvSize
  omega
end Go.Proofs.Ytlpncikiaojmiaa
