
/- Plain mathematics of chapter 1 (rows and pages): no Go in it. -/
namespace Go.Proofs.YtalhmogaogaekaaDoor.Ch
def inB (v lo hi : Int) : Bool := decide (lo ≤ v) && decide (v ≤ hi)
def rowFault (k v : Int) (g : Bool) : Int :=
  if !inB k 0 99 || !inB v 0 9999 then 3 else if g && v != 0 then 1 else 0

def sumStep (h z : Int) : Int := (h * 263 + z + 1) % 65521
def sumB (zs : List Int) : Int := zs.foldl sumStep 5
theorem sumStep_bd (h z : Int) : 0 ≤ sumStep h z ∧ sumStep h z < 65521 := by
  unfold sumStep
  exact ⟨Int.emod_nonneg _ (by decide), Int.emod_lt_of_pos _ (by decide)⟩
theorem sumB_bd (zs : List Int) : 0 ≤ sumB zs ∧ sumB zs < 65521 := by
  unfold sumB
  suffices H : ∀ h : Int, 0 ≤ h ∧ h < 65521 → 0 ≤ zs.foldl sumStep h ∧ zs.foldl sumStep h < 65521 from H 5 (by decide)
  induction zs with
  | nil => intro h hh; exact hh
  | cons z zs ih => intro h _; exact ih _ (sumStep_bd h z)
theorem take_snoc {α : Type} (zs : List α) (d : α) (k : Nat) (h : k < zs.length) : zs.take (k + 1) = zs.take k ++ [zs.getD k d] := by
  rw [List.take_succ_eq_append_getElem h]; simp [List.getD, h]
theorem sumB_snoc (zs : List Int) (k : Nat) (h : k < zs.length) : sumB (zs.take (k + 1)) = sumStep (sumB (zs.take k)) (zs.getD k 0) := by
  rw [take_snoc zs 0 k h]; simp [sumB, List.foldl_append]

structure Row where
  k : Int
  v : Int
  g : Bool
def Row.zero : Row := ⟨0, 0, false⟩
def Row.fault (r : Row) : Int := rowFault r.k r.v r.g
def low : Option Int → Int → Bool
  | none, _ => false
  | some p, k => decide (k ≤ p)
/-- Rows of keys that rise: the code of what stands behind 'prev'. -/
def riseFrom : Option Int → List Row → Int
  | _, [] => 0
  | prev, r :: rs => if r.fault != 0 then r.fault else if low prev r.k then 1 else riseFrom (some r.k) rs
theorem riseFrom_cons (prev : Option Int) (r : Row) (rs : List Row) : riseFrom prev (r :: rs) = if r.fault != 0 then r.fault else if low prev r.k then 1 else riseFrom (some r.k) rs := by
  cases prev <;> rfl
def rise (rs : List Row) : Int := riseFrom none rs
def prevAt (rs : List Row) : Nat → Option Int
  | 0 => none
  | k + 1 => some (rs.getD k Row.zero).k
def riseAt (rs : List Row) (k : Nat) : Int := riseFrom (prevAt rs k) (rs.drop k)
theorem riseAt_zero (rs : List Row) : riseAt rs 0 = rise rs := rfl
theorem riseAt_end (rs : List Row) (k : Nat) (h : rs.length ≤ k) : riseAt rs k = 0 := by
  unfold riseAt; rw [List.drop_of_length_le h]; cases k <;> rfl
theorem riseAt_fault (rs : List Row) (k : Nat) (h : k < rs.length) (hf : ((rs.getD k Row.zero).fault != 0) = true) : riseAt rs k = (rs.getD k Row.zero).fault := by
  unfold riseAt
  have e : rs.drop k = rs.getD k Row.zero :: rs.drop (k + 1) := by rw [List.drop_eq_getElem_cons h]; simp [List.getD, h]
  rw [e, riseFrom_cons, if_pos hf]
theorem riseAt_low (rs : List Row) (k : Nat) (h : k + 1 < rs.length) (hf : ((rs.getD (k + 1) Row.zero).fault != 0) = false) (hl : (rs.getD (k + 1) Row.zero).k ≤ (rs.getD k Row.zero).k) : riseAt rs (k + 1) = 1 := by
  unfold riseAt
  have e : rs.drop (k + 1) = rs.getD (k + 1) Row.zero :: rs.drop (k + 1 + 1) := by rw [List.drop_eq_getElem_cons h]; simp [List.getD, h]
  rw [e, riseFrom_cons, if_neg (by rw [hf]; exact Bool.false_ne_true), prevAt]
  rw [if_pos (by simpa [low] using hl)]
theorem riseAt_on (rs : List Row) (k : Nat) (h : k + 1 < rs.length) (hf : ((rs.getD (k + 1) Row.zero).fault != 0) = false) (hl : ¬ (rs.getD (k + 1) Row.zero).k ≤ (rs.getD k Row.zero).k) : riseAt rs (k + 1) = riseAt rs (k + 1 + 1) := by
  unfold riseAt
  have e : rs.drop (k + 1) = rs.getD (k + 1) Row.zero :: rs.drop (k + 1 + 1) := by rw [List.drop_eq_getElem_cons h]; simp [List.getD, h]
  rw [e, riseFrom_cons, if_neg (by rw [hf]; exact Bool.false_ne_true), prevAt]
  rw [if_neg (by simpa [low] using hl)]
  rfl
theorem riseAt_first (rs : List Row) (h : 0 < rs.length) (hf : ((rs.getD 0 Row.zero).fault != 0) = false) : riseAt rs 0 = riseAt rs 1 := by
  unfold riseAt
  have e : rs.drop 0 = rs.getD 0 Row.zero :: rs.drop 1 := by rw [List.drop_eq_getElem_cons h]; simp [List.getD, h]
  rw [e, riseFrom_cons, if_neg (by rw [hf]; exact Bool.false_ne_true), prevAt, if_neg (by simp [low])]
  rfl
def pageFault (rs : List Row) : Int := if 4 < rs.length then 2 else rise rs

def rowB (r : Row) : List Int := [r.k, r.v / 256, r.v % 256, if r.g then 1 else 0]
def packed (n : Int) (rs : List Row) : List Int := n :: rs.flatMap rowB
def withSum (p : List Int) : List Int := p ++ [sumB p / 256, sumB p % 256]
def pageB (rs : List Row) : List Int := withSum (packed rs.length rs)
theorem packed_snoc (n : Int) (rs : List Row) (k : Nat) (h : k < rs.length) : packed n (rs.take (k + 1)) = packed n (rs.take k) ++ rowB (rs.getD k Row.zero) := by
  unfold packed
  rw [take_snoc rs Row.zero k h]
  simp [List.flatMap_append]
/-- A row that fits its bytes. -/
def Row.fits (r : Row) : Prop := 0 ≤ r.k ∧ r.k ≤ 99 ∧ 0 ≤ r.v ∧ r.v ≤ 9999
def AllFit (rs : List Row) : Prop := ∀ i, (rs.getD i Row.zero).fits
/-- Each a byte. -/
def AllB (zs : List Int) : Prop := ∀ z ∈ zs, 0 ≤ z ∧ z ≤ 255
theorem rowB_bytes (r : Row) (h : r.fits) : AllB (rowB r) := by
  obtain ⟨h1, h2, h3, h4⟩ := h
  intro z hz
  simp only [rowB, List.mem_cons, List.not_mem_nil, or_false] at hz
  rcases hz with rfl | rfl | rfl | rfl
  · omega
  · omega
  · omega
  · split <;> omega
theorem fits_of_mem {rs : List Row} (h : AllFit rs) {r : Row} (hr : r ∈ rs) : r.fits := by
  obtain ⟨i, hi, he⟩ := List.getElem_of_mem hr
  have := h i
  rw [show rs.getD i Row.zero = r by simp [List.getD, hi, he]] at this
  exact this
theorem packed_bytes (n : Int) (rs : List Row) (h0 : 0 ≤ n) (h1 : n ≤ 255) (h : AllFit rs) : AllB (packed n rs) := by
  intro z hz
  simp only [packed, List.mem_cons, List.mem_flatMap] at hz
  rcases hz with rfl | ⟨r, hr, hz⟩
  · exact ⟨h0, h1⟩
  · exact rowB_bytes r (fits_of_mem h hr) z hz
theorem sum_bytes (p : List Int) : AllB [sumB p / 256, sumB p % 256] := by
  have := sumB_bd p
  intro z hz
  simp only [List.mem_cons, List.not_mem_nil, or_false] at hz
  rcases hz with rfl | rfl <;> omega
theorem packed_len (n : Int) (rs : List Row) : (packed n rs).length = 1 + 4 * rs.length := by
  induction rs with
  | nil => rfl
  | cons r rs ih => simp only [packed, List.flatMap_cons, List.length_cons, List.length_append, rowB, List.length_nil] at *; omega
/-- Of a page without a fault. -/
theorem riseFrom_zero {rs : List Row} {p : Option Int} (h : riseFrom p rs = 0) : ∀ r ∈ rs, r.fault = 0 := by
  induction rs generalizing p with
  | nil => intro r hr; cases hr
  | cons q rs ih =>
    rw [riseFrom_cons] at h
    by_cases hq : (q.fault != 0) = true
    · rw [if_pos hq] at h; simp [h] at hq
    · rw [if_neg hq] at h
      by_cases hl : low p q.k = true
      · rw [if_pos hl] at h; omega
      · rw [if_neg hl] at h
        intro r hr
        rcases List.mem_cons.1 hr with rfl | hr
        · simpa using hq
        · exact ih h r hr
theorem fits_of_fault {r : Row} (h : r.fault = 0) : r.fits := by
  unfold Row.fault rowFault inB at h
  unfold Row.fits
  by_cases h1 : 0 ≤ r.k <;> by_cases h2 : r.k ≤ 99 <;> by_cases h3 : 0 ≤ r.v <;> by_cases h4 : r.v ≤ 9999 <;> simp [h1, h2, h3, h4] at h ⊢
theorem allFit_of_page {rs : List Row} (h : pageFault rs = 0) : AllFit rs ∧ rs.length ≤ 4 := by
  unfold pageFault at h
  by_cases h4 : 4 < rs.length
  · rw [if_pos h4] at h; omega
  · rw [if_neg h4] at h
    refine ⟨fun i => ?_, by omega⟩
    by_cases hi : i < rs.length
    · have : rs.getD i Row.zero = rs[i] := by simp [List.getD, hi]
      rw [this]
      exact fits_of_fault (riseFrom_zero h _ (List.getElem_mem hi))
    · have : rs.getD i Row.zero = Row.zero := by simp [List.getD, List.getElem?_eq_none (show rs.length ≤ i by omega)]
      rw [this]
      unfold Row.fits Row.zero; decide
end Go.Proofs.YtalhmogaogaekaaDoor.Ch
