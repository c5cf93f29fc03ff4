
/- The place of the leaf for a key: plain. -/
import Derived.Test.YtlpncikiaojmiaaMath3
namespace Go.Proofs.Ytlpncikiaojmiaa.Ch
/-- The place of the last of the first k leaves whose first key is at most key; 0: there is none. -/
def forAt (ls : List (List Row)) (key : Int) : Nat → Nat
  | 0 => 0
  | k + 1 => if firstK (ls.getD k []) ≤ key then k else forAt ls key k
theorem forAt_le (ls : List (List Row)) (key : Int) (k : Nat) : forAt ls key k ≤ k := by
  induction k with
  | zero => exact Nat.le_refl _
  | succ k ih => simp only [forAt]; split <;> omega
theorem forAt_yes {ls : List (List Row)} {key : Int} {k : Nat} (h : firstK (ls.getD k []) ≤ key) : forAt ls key (k + 1) = k := by
  rw [forAt, if_pos h]
theorem forAt_no {ls : List (List Row)} {key : Int} {k : Nat} (h : ¬ firstK (ls.getD k []) ≤ key) : forAt ls key (k + 1) = forAt ls key k := by
  rw [forAt, if_neg h]
/-- What is asked first: the leaves, the key. -/
def asked (ls : List (List Row)) (key : Int) : Int := if leavesFault ls != 0 then leavesFault ls else if inB key 0 99 then 0 else 3
/-- What LeafFor answers. -/
def leafFor (ls : List (List Row)) (key : Int) : Int × Int :=
  if asked ls key != 0 then (asked ls key, 0) else if ls.length = 0 then (4, 0) else (0, forAt ls key ls.length)
theorem asked_good {ls : List (List Row)} {key : Int} (h : asked ls key = 0) : leavesFault ls = 0 ∧ inB key 0 99 = true := by
  unfold asked at h
  by_cases hf : (leavesFault ls != 0) = true
  · rw [if_pos hf] at h; simp [h] at hf
  · rw [if_neg hf] at h
    by_cases hb : inB key 0 99 = true
    · exact ⟨by simpa using hf, hb⟩
    · rw [if_neg hb] at h; omega
end Go.Proofs.Ytlpncikiaojmiaa.Ch
