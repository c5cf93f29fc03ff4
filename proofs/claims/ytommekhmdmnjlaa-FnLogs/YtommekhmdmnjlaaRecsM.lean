
/- Records packed one behind the other are read back; of a beginning the first ones: plain. -/
import Derived.Test.YtommekhmdmnjlaaRecM
namespace Go.Proofs.Ytommekhmdmnjlaa.Ch
def packs (rs : List Rec) : List Int := rs.flatMap Rec.bytes
theorem packs_snoc (rs : List Rec) (r : Rec) : packs (rs ++ [r]) = packs rs ++ r.bytes := by simp [packs]
theorem reads_packs {rs : List Rec} (h : ∀ r ∈ rs, r.fault = 0) : reads (packs rs) = rs := by
  induction rs with
  | nil => rfl
  | cons r rs ih =>
    have e : packs (r :: rs) = r.bytes ++ packs rs := by simp [packs]
    rw [e, reads_bytes (h r (List.mem_cons_self)), ih (fun x hx => h x (List.mem_cons_of_mem _ hx))]
theorem packs_len (rs : List Rec) : (packs rs).length = lenOf rs := by
  induction rs with
  | nil => rfl
  | cons r rs ih =>
    have e : packs (r :: rs) = r.bytes ++ packs rs := by simp [packs]
    rw [e, List.length_append, ih, lenOf_cons, r.bytes_len]
theorem used_packs {rs : List Rec} (h : ∀ r ∈ rs, r.fault = 0) : used (packs rs) = (packs rs).length := by
  unfold used
  rw [reads_packs h, packs_len]
theorem packs_bytes {rs : List Rec} (h : ∀ r ∈ rs, r.fault = 0) : AllB (packs rs) := by
  intro z hz
  simp only [packs, List.mem_flatMap] at hz
  obtain ⟨r, hr, hz⟩ := hz
  exact Rec.all_bytes (Rec.fit (h r hr)) z hz
theorem reads_begin : ∀ (n : Nat) (zs t : List Int), zs.length ≤ n → reads zs <+: reads (zs ++ t) := by
  intro n
  induction n with
  | zero =>
    intro zs t h
    have : zs = [] := List.length_eq_zero_iff.1 (by omega)
    subst this
    have : reads [] = [] := rfl
    rw [this]; exact List.nil_prefix
  | succ n ih =>
    intro zs t h
    cases hf : first zs with
    | none => rw [reads_none hf]; exact List.nil_prefix
    | some r =>
      have hl := first_len hf
      rw [reads_some (first_append hf t), reads_some hf]
      have e : (zs ++ t).drop r.len = zs.drop r.len ++ t := by
        rw [List.drop_append]
        simp [show r.len - zs.length = 0 by omega]
      rw [e]
      exact List.prefix_cons_inj r |>.2 (ih (zs.drop r.len) t (by simp; omega))
theorem reads_take (zs : List Int) (c : Nat) : reads (zs.take c) <+: reads zs := by
  have := reads_begin _ (zs.take c) (zs.drop c) (Nat.le_refl _)
  rwa [List.take_append_drop] at this
end Go.Proofs.Ytommekhmdmnjlaa.Ch
