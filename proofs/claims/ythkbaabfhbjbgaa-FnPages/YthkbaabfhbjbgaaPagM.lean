/- Plain: bytes that are read are those of their page; a page without a fault is read back. -/
import Derived.Test.YthkbaabfhbjbgaaUnpD
namespace Go.Proofs.Ythkbaabfhbjbgaa.Ch

theorem allB_at {zs : List Int} (h : AllB zs) (i : Nat) : 0 ≤ zs.getD i 0 ∧ zs.getD i 0 ≤ 255 := isB_of h i

theorem rowB_rowIn {ys : List Int} (h : AllB ys) (i : Nat) (hg : ys.getD (4 * i + 3) 0 ≤ 1) :
    rowB (rowIn ys i) = [ys.getD (4 * i) 0, ys.getD (4 * i + 1) 0, ys.getD (4 * i + 2) 0, ys.getD (4 * i + 3) 0] := by
  have h1 := allB_at h (4 * i + 1)
  have h2 := allB_at h (4 * i + 2)
  have h3 := allB_at h (4 * i + 3)
  simp only [rowB, rowIn, readRow]
  generalize ys.getD (4 * i + 1) 0 = b at *
  generalize ys.getD (4 * i + 2) 0 = c at *
  have e1 : (b * 256 + c) / 256 = b := by omega
  have e2 : (b * 256 + c) % 256 = c := by omega
  rw [e1, e2]
  have hd : ys.getD (4 * i + 3) 0 = 0 ∨ ys.getD (4 * i + 3) 0 = 1 := by omega
  rcases hd with hd | hd <;> simp only [hd] <;> rfl

theorem rows_bytes {ys : List Int} (h : AllB ys) (m : Nat) (hl : 4 * m ≤ ys.length) (hg : GoodTo ys m) : (rowsIn ys m).flatMap rowB = ys.take (4 * m) := by
  induction m with
  | zero => simp [rowsIn]
  | succ m ih =>
    rw [rowsIn_snoc, List.flatMap_append, ih (by omega) (fun i hi => hg i (by omega))]
    simp only [List.flatMap_cons, List.flatMap_nil, List.append_nil]
    rw [rowB_rowIn h m (hg m (by omega)), show 4 * (m + 1) = 4 * m + 1 + 1 + 1 + 1 by omega,
      take_snoc ys 0 (4 * m + 1 + 1 + 1) (by omega), take_snoc ys 0 (4 * m + 1 + 1) (by omega), take_snoc ys 0 (4 * m + 1) (by omega), take_snoc ys 0 (4 * m) (by omega)]
    simp

theorem drop_two (zs : List Int) (q : Nat) (h : zs.length = q + 2) : zs = zs.take q ++ [zs.getD q 0, zs.getD (q + 1) 0] := by
  have e := take_snoc zs 0 (q + 1) (by omega)
  rw [take_snoc zs 0 q (by omega), List.take_of_length_le (by omega)] at e
  simp only [List.append_assoc, List.cons_append, List.nil_append] at e
  exact e

/-- Bytes that are read are just those of their page. -/
theorem page_of_unp {zs : List Int} {rs : List Row} (hb : AllB zs) (h : unp zs = (0, rs)) : pageB rs = zs := by
  unfold unp at h
  cases hL : lenOk zs
  · simp [hL] at h
  · cases hS : sumOk zs
    · simp [hL, hS] at h
    · cases hG : goodB (rowPart zs) (many zs)
      · simp [hL, hS, hG] at h
      · by_cases hF : pageFault (rowsIn (rowPart zs) (many zs)) = 0
        · simp [hL, hS, hG, hF] at h
          subst h
          obtain ⟨e1, e2, e3⟩ := lenOk_eq hL (allB_at hb 0).2
          have hg := (goodB_iff _ _).1 hG
          have hys : AllB (rowPart zs) := fun z hz => hb z (List.mem_of_mem_drop (List.mem_of_mem_take hz))
          have hlen : (rowPart zs).length = 4 * many zs := by simp [rowPart]; omega
          have hrows := rows_bytes hys (many zs) (by omega) hg
          rw [List.take_of_length_le (by omega)] at hrows
          have hq : zs.length = (1 + 4 * many zs) + 2 := by omega
          have hpk : packed (many zs) (rowsIn (rowPart zs) (many zs)) = zs.take (1 + 4 * many zs) := by
            unfold packed
            rw [hrows]
            cases zs with
            | nil => simp at hq
            | cons z t =>
              simp only [List.getD_cons_zero] at e3
              have hz : z = (many (z :: t) : Int) := by omega
              unfold rowPart
              rw [show 1 + 4 * many (z :: t) = (4 * many (z :: t)) + 1 by omega, List.take_succ_cons]
              congr 1
              · exact hz.symm
              · simp only [List.drop_succ_cons, List.drop_zero]
                congr 1
                omega
          have hpB : pageB (rowsIn (rowPart zs) (many zs)) = withSum (packed (many zs) (rowsIn (rowPart zs) (many zs))) := by
            unfold pageB; rw [rowsIn_len]
          rw [hpB, hpk]
          have hq2 : zs.length - 2 = 1 + 4 * many zs := by omega
          simp only [sumOk, hq2, beq_iff_eq] at hS
          have a1 := allB_at hb (1 + 4 * many zs)
          have a2 := allB_at hb (1 + 4 * many zs + 1)
          unfold withSum
          rw [← hS]
          have d1 : (zs.getD (1 + 4 * many zs) 0 * 256 + zs.getD (1 + 4 * many zs + 1) 0) / 256 = zs.getD (1 + 4 * many zs) 0 := by omega
          have d2 : (zs.getD (1 + 4 * many zs) 0 * 256 + zs.getD (1 + 4 * many zs + 1) 0) % 256 = zs.getD (1 + 4 * many zs + 1) 0 := by omega
          rw [d1, d2]
          exact (drop_two zs _ hq).symm
        · simp [hL, hS, hG, hF] at h

theorem flat_len (rs : List Row) : (rs.flatMap rowB).length = 4 * rs.length := by
  have := packed_len 0 rs
  simp only [packed, List.length_cons] at this
  omega
theorem flat_at (rs : List Row) (i : Nat) (h : i < rs.length) : (rs.flatMap rowB).getD (4 * i) 0 = (rs.getD i Row.zero).k ∧ (rs.flatMap rowB).getD (4 * i + 1) 0 = (rs.getD i Row.zero).v / 256 ∧
    (rs.flatMap rowB).getD (4 * i + 2) 0 = (rs.getD i Row.zero).v % 256 ∧ (rs.flatMap rowB).getD (4 * i + 3) 0 = if (rs.getD i Row.zero).g then 1 else 0 := by
  induction rs generalizing i with
  | nil => simp at h
  | cons r rs ih =>
    cases i with
    | zero => simp [rowB]
    | succ i =>
      have := ih i (by simpa using h)
      simp only [List.flatMap_cons, rowB, List.cons_append, List.nil_append] at *
      rw [show 4 * (i + 1) = 4 * i + 1 + 1 + 1 + 1 by omega]
      simpa using this
theorem rowIn_flat (rs : List Row) (i : Nat) (h : i < rs.length) : rowIn (rs.flatMap rowB) i = rs.getD i Row.zero := by
  obtain ⟨h0, h1, h2, h3⟩ := flat_at rs i h
  unfold rowIn readRow
  rw [h0, h1, h2, h3]
  generalize rs.getD i Row.zero = r
  obtain ⟨k, v, g⟩ := r
  have e : v / 256 * 256 + v % 256 = v := by omega
  simp only [e]
  cases g <;> rfl
theorem rowsIn_flat (rs : List Row) : rowsIn (rs.flatMap rowB) rs.length = rs := by
  apply List.ext_getElem
  · simp [rowsIn]
  · intro i h1 h2
    have := rowIn_flat rs i h2
    simp only [rowsIn, List.getElem_map, List.getElem_range, this]
    simp [List.getD, h2]

/-- A page without a fault is read back. -/
theorem unp_of_page {rs : List Row} (hf : pageFault rs = 0) : unp (pageB rs) = (0, rs) := by
  obtain ⟨hfit, hl4⟩ := allFit_of_page hf
  have hlen : (pageB rs).length = 3 + 4 * rs.length := by
    unfold pageB withSum
    rw [List.length_append, packed_len]
    simp; omega
  have h0 : (pageB rs).getD 0 0 = (rs.length : Int) := by simp [pageB, withSum, packed]
  have hL : lenOk (pageB rs) = true := by
    simp only [lenOk, Bool.and_eq_true, decide_eq_true_eq, beq_iff_eq, h0, hlen]
    omega
  have hmany : many (pageB rs) = rs.length := by unfold many; omega
  have hpl := packed_len (rs.length : Int) rs
  have hq : (pageB rs).length - 2 = (packed rs.length rs).length := by omega
  have htake : (pageB rs).take ((pageB rs).length - 2) = packed rs.length rs := by
    rw [hq]; simp [pageB, withSum]
  have hbd := sumB_bd (packed rs.length rs)
  have hS : sumOk (pageB rs) = true := by
    simp only [sumOk, beq_iff_eq, htake]
    rw [hq]
    have g0 : (pageB rs).getD (packed rs.length rs).length 0 = sumB (packed rs.length rs) / 256 := by simp [pageB, withSum, List.getD]
    have g1 : (pageB rs).getD ((packed rs.length rs).length + 1) 0 = sumB (packed rs.length rs) % 256 := by simp [pageB, withSum, List.getD]
    rw [g0, g1]
    omega
  have hpart : rowPart (pageB rs) = rs.flatMap rowB := by
    unfold rowPart
    have e : (pageB rs).drop 1 = rs.flatMap rowB ++ [sumB (packed rs.length rs) / 256, sumB (packed rs.length rs) % 256] := by
      simp [pageB, withSum, packed]
    rw [e, show (pageB rs).length - 2 - 1 = (rs.flatMap rowB).length by rw [flat_len]; omega]
    simp
  have hG : goodB (rowPart (pageB rs)) (many (pageB rs)) = true := by
    rw [goodB_iff, hpart, hmany]
    intro i hi
    rw [(flat_at rs i hi).2.2.2]
    split <;> omega
  unfold unp
  rw [hL, hS, hG, hpart, hmany, rowsIn_flat]
  simp [hf]
end Go.Proofs.Ythkbaabfhbjbgaa.Ch
