/- Plain mathematics of chapter 1 (rows and pages): no Go in it. -/
namespace Go.Proofs.Ythkbaabfhbjbgaa.Ch
def inB (v lo hi : Int) : Bool := decide (lo ≤ v) && decide (v ≤ hi)
def rowFault (k v : Int) (g : Bool) : Int :=
  if !inB k 0 99 || !inB v 0 9999 then 3 else if g && v != 0 then 1 else 0

def sumStep (h z : Int) : Int := (h * 263 + z + 1) % 65521
def sumB (zs : List Int) : Int := zs.foldl sumStep 5
theorem sumStep_bd (h z : Int) : 0 ≤ sumStep h z ∧ sumStep h z < 65521 := by
  unfold sumStep
  exact ⟨Int.emod_nonneg _ (by decide), Int.emod_lt_of_pos _ (by decide)⟩
theorem sumB_bd (zs : List Int) : 0 ≤ sumB zs ∧ sumB zs < 65521 := by
  unfold sumB
  suffices H : ∀ h : Int, 0 ≤ h ∧ h < 65521 → 0 ≤ zs.foldl sumStep h ∧ zs.foldl sumStep h < 65521 from H 5 (by decide)
  induction zs with
  | nil => intro h hh; exact hh
  | cons z zs ih => intro h _; exact ih _ (sumStep_bd h z)
theorem take_snoc {α : Type} (zs : List α) (d : α) (k : Nat) (h : k < zs.length) : zs.take (k + 1) = zs.take k ++ [zs.getD k d] := by
  rw [List.take_succ_eq_append_getElem h]; simp [List.getD, h]
theorem sumB_snoc (zs : List Int) (k : Nat) (h : k < zs.length) : sumB (zs.take (k + 1)) = sumStep (sumB (zs.take k)) (zs.getD k 0) := by
  rw [take_snoc zs 0 k h]; simp [sumB, List.foldl_append]

structure Row where
  k : Int
  v : Int
  g : Bool
def Row.zero : Row := ⟨0, 0, false⟩
def Row.fault (r : Row) : Int := rowFault r.k r.v r.g
def low : Option Int → Int → Bool
  | none, _ => false
  | some p, k => decide (k ≤ p)
/-- Rows of keys that rise: the code of what stands behind 'prev'. -/
def riseFrom : Option Int → List Row → Int
  | _, [] => 0
  | prev, r :: rs => if r.fault != 0 then r.fault else if low prev r.k then 1 else riseFrom (some r.k) rs
theorem riseFrom_cons (prev : Option Int) (r : Row) (rs : List Row) : riseFrom prev (r :: rs) = if r.fault != 0 then r.fault else if low prev r.k then 1 else riseFrom (some r.k) rs := by
  cases prev <;> rfl
def rise (rs : List Row) : Int := riseFrom none rs
def prevAt (rs : List Row) : Nat → Option Int
  | 0 => none
  | k + 1 => some (rs.getD k Row.zero).k
def riseAt (rs : List Row) (k : Nat) : Int := riseFrom (prevAt rs k) (rs.drop k)
theorem riseAt_zero (rs : List Row) : riseAt rs 0 = rise rs := rfl
theorem riseAt_end (rs : List Row) (k : Nat) (h : rs.length ≤ k) : riseAt rs k = 0 := by
  unfold riseAt; rw [List.drop_of_length_le h]; cases k <;> rfl
theorem riseAt_fault (rs : List Row) (k : Nat) (h : k < rs.length) (hf : ((rs.getD k Row.zero).fault != 0) = true) : riseAt rs k = (rs.getD k Row.zero).fault := by
  unfold riseAt
  have e : rs.drop k = rs.getD k Row.zero :: rs.drop (k + 1) := by rw [List.drop_eq_getElem_cons h]; simp [List.getD, h]
  rw [e, riseFrom_cons, if_pos hf]
theorem riseAt_low (rs : List Row) (k : Nat) (h : k + 1 < rs.length) (hf : ((rs.getD (k + 1) Row.zero).fault != 0) = false) (hl : (rs.getD (k + 1) Row.zero).k ≤ (rs.getD k Row.zero).k) : riseAt rs (k + 1) = 1 := by
  unfold riseAt
  have e : rs.drop (k + 1) = rs.getD (k + 1) Row.zero :: rs.drop (k + 1 + 1) := by rw [List.drop_eq_getElem_cons h]; simp [List.getD, h]
  rw [e, riseFrom_cons, if_neg (by rw [hf]; exact Bool.false_ne_true), prevAt]
  rw [if_pos (by simpa [low] using hl)]
theorem riseAt_on (rs : List Row) (k : Nat) (h : k + 1 < rs.length) (hf : ((rs.getD (k + 1) Row.zero).fault != 0) = false) (hl : ¬ (rs.getD (k + 1) Row.zero).k ≤ (rs.getD k Row.zero).k) : riseAt rs (k + 1) = riseAt rs (k + 1 + 1) := by
  unfold riseAt
  have e : rs.drop (k + 1) = rs.getD (k + 1) Row.zero :: rs.drop (k + 1 + 1) := by rw [List.drop_eq_getElem_cons h]; simp [List.getD, h]
  rw [e, riseFrom_cons, if_neg (by rw [hf]; exact Bool.false_ne_true), prevAt]
  rw [if_neg (by simpa [low] using hl)]
  rfl
theorem riseAt_first (rs : List Row) (h : 0 < rs.length) (hf : ((rs.getD 0 Row.zero).fault != 0) = false) : riseAt rs 0 = riseAt rs 1 := by
  unfold riseAt
  have e : rs.drop 0 = rs.getD 0 Row.zero :: rs.drop 1 := by rw [List.drop_eq_getElem_cons h]; simp [List.getD, h]
  rw [e, riseFrom_cons, if_neg (by rw [hf]; exact Bool.false_ne_true), prevAt, if_neg (by simp [low])]
  rfl
def pageFault (rs : List Row) : Int := if 4 < rs.length then 2 else rise rs
end Go.Proofs.Ythkbaabfhbjbgaa.Ch
