
/- Plain: what an operation needs. -/
import Derived.Test.YtnbhabifblahmaaOpM
import Derived.Test.YtnbhabifblahmaaHd
namespace Go.Proofs.Ytnbhabifblahmaa

/-- The locks that an operation needs: the resource, the mode. -/
def Ch.needL (k a : Int) : List Ch.Hold :=
  if k = 1 then [⟨0, 1⟩, ⟨a + 1, 3⟩]
  else if k = 2 ∨ k = 3 ∨ k = 8 then [⟨0, 2⟩, ⟨a + 1, 5⟩]
  else if k = 4 ∨ k = 5 ∨ k = 10 then [⟨0, 3⟩]
  else if k = 9 then [⟨0, 1⟩]
  else []
def Ch.needsR (k a b v : Int) : Int × List Ch.Hold := if Ch.opFault k a b v = 0 then (0, Ch.needL k a) else (Ch.opFault k a b v, [])
theorem Ch.needsR_bad {k a b v c : Int} (h : Ch.opFault k a b v = c) (h0 : c ≠ 0) : Ch.needsR k a b v = (c, []) := by unfold Ch.needsR; rw [h, if_neg h0]
theorem Ch.needsR_ok {k a b v : Int} (h : Ch.opFault k a b v = 0) : Ch.needsR k a b v = (0, Ch.needL k a) := by unfold Ch.needsR; rw [h, if_pos rfl]
theorem Ch.needL_len (k a : Int) : (Ch.needL k a).length ≤ 2 := by
  unfold Ch.needL
  repeat' split
  all_goals simp
/-- An operation without a fault is of some kind, and its key is one where it has one. -/
theorem Ch.op_kind {k a b v : Int} (h : Ch.opFault k a b v = 0) : (k = 1 ∨ k = 2 ∨ k = 3 ∨ k = 4 ∨ k = 5 ∨ k = 6 ∨ k = 7 ∨ k = 8 ∨ k = 9 ∨ k = 10) ∧ 0 ≤ a ∧ a ≤ 99 := by
  unfold Ch.opFault at h
  have key : ∀ x : Int, ¬ (Ch.inB x 0 99 = false) → 0 ≤ x ∧ x ≤ 99 := fun x hx => by
    have : Ch.inB x 0 99 = true := by simpa using hx
    unfold Ch.inB at this
    simpa using this
  repeat' split at h
  all_goals first
    | (exfalso; omega)
    | (rename_i h1 h2 h3; have := key a (by assumption); omega)
    | (rename_i h1 h2 h3 h4; have := key a (by assumption); omega)
    | (rename_i h1 h2 h3 h4 h5; have := key a (by assumption); omega)
    | omega
end Go.Proofs.Ytnbhabifblahmaa
