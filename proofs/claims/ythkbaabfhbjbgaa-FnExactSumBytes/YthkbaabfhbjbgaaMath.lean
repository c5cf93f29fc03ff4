/- Plain mathematics of chapter 1 (rows and pages): no Go in it. -/
namespace Go.Proofs.Ythkbaabfhbjbgaa.Ch
def inB (v lo hi : Int) : Bool := decide (lo ≤ v) && decide (v ≤ hi)
def rowFault (k v : Int) (g : Bool) : Int :=
  if !inB k 0 99 || !inB v 0 9999 then 3 else if g && v != 0 then 1 else 0

def sumStep (h z : Int) : Int := (h * 263 + z + 1) % 65521
def sumB (zs : List Int) : Int := zs.foldl sumStep 5
theorem sumStep_bd (h z : Int) : 0 ≤ sumStep h z ∧ sumStep h z < 65521 := by
  unfold sumStep
  exact ⟨Int.emod_nonneg _ (by decide), Int.emod_lt_of_pos _ (by decide)⟩
theorem sumB_bd (zs : List Int) : 0 ≤ sumB zs ∧ sumB zs < 65521 := by
  unfold sumB
  suffices H : ∀ h : Int, 0 ≤ h ∧ h < 65521 → 0 ≤ zs.foldl sumStep h ∧ zs.foldl sumStep h < 65521 from H 5 (by decide)
  induction zs with
  | nil => intro h hh; exact hh
  | cons z zs ih => intro h _; exact ih _ (sumStep_bd h z)
theorem take_snoc {α : Type} (zs : List α) (d : α) (k : Nat) (h : k < zs.length) : zs.take (k + 1) = zs.take k ++ [zs.getD k d] := by
  rw [List.take_succ_eq_append_getElem h]; simp [List.getD, h]
theorem sumB_snoc (zs : List Int) (k : Nat) (h : k < zs.length) : sumB (zs.take (k + 1)) = sumStep (sumB (zs.take k)) (zs.getD k 0) := by
  rw [take_snoc zs 0 k h]; simp [sumB, List.foldl_append]
end Go.Proofs.Ythkbaabfhbjbgaa.Ch
