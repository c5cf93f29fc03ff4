
/- Plain facts of chapter 8: what was before a change, a value in leaves, rows that are no ghosts. No Go in it. -/
import Derived.Test.YthfanfnbjldddaaBfA
import Derived.Test.YthfanfnbjldddaaPutN
import Derived.Test.YthfanfnbjldddaaFindW
namespace Go.Proofs.Ythfanfnbjldddaa

def Ch.Bf.fault (b : Ch.Bf) : Int := if !Ch.inB b.k 0 99 || !Ch.inB b.v 0 9999 then 3 else if !b.h && b.v != 0 then 1 else 0
def Ch.befOne : List Ch.Bf → Int
  | [] => 0
  | b :: bs => if b.fault != 0 then b.fault else Ch.befOne bs
def Ch.befFault (bs : List Ch.Bf) : Int := if 40 < bs.length then 2 else Ch.befOne bs
theorem Ch.bef_big {bs : List Ch.Bf} (h : 40 < bs.length) : Ch.befFault bs = 2 := by rw [Ch.befFault, if_pos h]
theorem Ch.bef_few {bs : List Ch.Bf} (h : bs.length ≤ 40) : Ch.befFault bs = Ch.befOne (bs.drop 0) := by rw [Ch.befFault, if_neg (by omega), List.drop_zero]
theorem Ch.bef_drop {bs : List Ch.Bf} {k : Nat} (h : k < bs.length) : bs.drop k = bs.getD k Ch.Bf.zero :: bs.drop (k + 1) := by
  rw [List.drop_eq_getElem_cons h]; simp [List.getD, h]
theorem Ch.bef_at {bs : List Ch.Bf} {k : Nat} (h : k < bs.length) (hf : ((bs.getD k Ch.Bf.zero).fault != 0) = true) : Ch.befOne (bs.drop k) = (bs.getD k Ch.Bf.zero).fault := by
  rw [Ch.bef_drop h, Ch.befOne, if_pos hf]
theorem Ch.bef_on {bs : List Ch.Bf} {k : Nat} (h : k < bs.length) (hf : ((bs.getD k Ch.Bf.zero).fault != 0) = false) : Ch.befOne (bs.drop k) = Ch.befOne (bs.drop (k + 1)) := by
  rw [Ch.bef_drop h, Ch.befOne, if_neg (by rw [hf]; exact Bool.false_ne_true)]
theorem Ch.bef_end {bs : List Ch.Bf} {k : Nat} (h : bs.length ≤ k) : Ch.befOne (bs.drop k) = 0 := by
  rw [List.drop_of_length_le h]; rfl
theorem Ch.bef_ok {bs : List Ch.Bf} (h : Ch.befOne bs = 0) : ∀ b ∈ bs, b.fault = 0 := by
  induction bs with
  | nil => intro b hb; cases hb
  | cons c bs ih =>
    rw [Ch.befOne] at h
    by_cases hc : (c.fault != 0) = true
    · rw [if_pos hc] at h; simp [h] at hc
    · rw [if_neg hc] at h
      intro b hb
      rcases List.mem_cons.1 hb with rfl | hb
      · simpa using hc
      · exact ih h b hb

/-- What a key has in leaves: nothing where there is no row, or a ghost. -/
def Ch.has (ls : List (List Ch.Row)) (key : Int) : Option Int :=
  match Ch.findR ls key with
  | some r => if r.g then none else some r.v
  | none => none
def Ch.bf (key : Int) : Option Int → Ch.Bf
  | some v => ⟨key, true, v⟩
  | none => ⟨key, false, 0⟩
def Ch.bfOf (ls : List (List Ch.Row)) (key : Int) : Ch.Bf := if Ch.asked ls key != 0 then Ch.Bf.zero else Ch.bf key (Ch.has ls key)
def Ch.valR (ls : List (List Ch.Row)) (key : Int) : Int × Int :=
  if Ch.asked ls key != 0 then (Ch.asked ls key, 0) else match Ch.has ls key with
    | some v => (0, v)
    | none => (4, 0)
theorem Ch.bfOf_code {ls : List (List Ch.Row)} {key : Int} (h : (Ch.asked ls key != 0) = true) : Ch.bfOf ls key = Ch.Bf.zero := by rw [Ch.bfOf, if_pos h]
theorem Ch.bfOf_ok {ls : List (List Ch.Row)} {key : Int} (h : (Ch.asked ls key != 0) = false) : Ch.bfOf ls key = Ch.bf key (Ch.has ls key) := by rw [Ch.bfOf, if_neg (by simp [h])]
theorem Ch.valR_code {ls : List (List Ch.Row)} {key : Int} (h : (Ch.asked ls key != 0) = true) : Ch.valR ls key = (Ch.asked ls key, 0) := by rw [Ch.valR, if_pos h]
theorem Ch.valR_none {ls : List (List Ch.Row)} {key : Int} (h : (Ch.asked ls key != 0) = false) (hf : Ch.has ls key = none) : Ch.valR ls key = (4, 0) := by rw [Ch.valR, if_neg (by simp [h]), hf]
theorem Ch.valR_some {ls : List (List Ch.Row)} {key v : Int} (h : (Ch.asked ls key != 0) = false) (hf : Ch.has ls key = some v) : Ch.valR ls key = (0, v) := by rw [Ch.valR, if_neg (by simp [h]), hf]
theorem Ch.has_none {ls : List (List Ch.Row)} {key : Int} (h : Ch.findR ls key = none) : Ch.has ls key = none := by rw [Ch.has, h]
theorem Ch.has_ghost {ls : List (List Ch.Row)} {key : Int} {rk rv : Int} (h : Ch.findR ls key = some ⟨rk, rv, true⟩) : Ch.has ls key = none := by rw [Ch.has, h]; rfl
theorem Ch.has_row {ls : List (List Ch.Row)} {key : Int} {rk rv : Int} (h : Ch.findR ls key = some ⟨rk, rv, false⟩) : Ch.has ls key = some rv := by rw [Ch.has, h]; rfl

/-- Rows one by one: the first fault; then whether their keys rise. -/
def Ch.rowsOne : List Ch.Row → Int
  | [] => 0
  | r :: rs => if r.fault != 0 then r.fault else Ch.rowsOne rs
def Ch.risesK (rs : List Ch.Row) : Bool := decide (rs.Pairwise (fun a b => a.k < b.k))
def Ch.mapOf (rs : List Ch.Row) : List Ch.Row := rs.filter (fun r => !r.g)
def Ch.mapR (rs : List Ch.Row) : Int × List Ch.Row :=
  if 240 < rs.length then (2, []) else if Ch.rowsOne rs != 0 then (Ch.rowsOne rs, []) else if Ch.risesK rs then (0, Ch.mapOf rs) else (1, [])
end Go.Proofs.Ythfanfnbjldddaa
