
/- Plain facts of UndoAll. -/
import Derived.Test.YthfanfnbjldddaaSetM
namespace Go.Proofs.Ythfanfnbjldddaa

/-- One step back: a code stands. -/
def Ch.backOne (tx : Int) (st : Int × List (List Ch.Row) × List Ch.Rec) (b : Ch.Bf) : Int × List (List Ch.Row) × List Ch.Rec :=
  if st.1 != 0 then st else
    if (Ch.setR st.2.1 tx b.k b.h b.v).1 != 0 then ((Ch.setR st.2.1 tx b.k b.h b.v).1, [], []) else
      (0, (Ch.setR st.2.1 tx b.k b.h b.v).2.1, st.2.2 ++ [Ch.setRec 3 st.2.1 tx b.k b.h b.v])
/-- From the last one to the first. -/
def Ch.backAll (tx : Int) (ls : List (List Ch.Row)) (bs : List Ch.Bf) : Int × List (List Ch.Row) × List Ch.Rec := bs.foldr (fun b st => Ch.backOne tx st b) (0, ls, [])
def Ch.undoR (ls : List (List Ch.Row)) (tx : Int) (bs : List Ch.Bf) : Int × List (List Ch.Row) × List Ch.Rec :=
  if Ch.setF ls tx bs != 0 then (Ch.setF ls tx bs, [], []) else Ch.backAll tx ls bs
theorem Ch.back_code {tx c : Int} {ls : List (List Ch.Row)} {rs : List Ch.Rec} {b : Ch.Bf} (h : (c != 0) = true) : Ch.backOne tx (c, ls, rs) b = (c, ls, rs) := by
  unfold Ch.backOne; rw [if_pos h]
theorem Ch.back_many {tx c : Int} {ls : List (List Ch.Row)} {rs : List Ch.Rec} {b : Ch.Bf} (hs : (Ch.setR ls tx b.k b.h b.v).1 = c) (h : (c != 0) = true) : Ch.backOne tx (0, ls, rs) b = (c, [], []) := by
  unfold Ch.backOne; simp only; rw [if_neg (by decide), hs, if_pos h]
theorem Ch.back_ok {tx : Int} {ls : List (List Ch.Row)} {rs : List Ch.Rec} {b : Ch.Bf} (hs : (Ch.setR ls tx b.k b.h b.v).1 = 0) : Ch.backOne tx (0, ls, rs) b = (0, (Ch.setR ls tx b.k b.h b.v).2.1, rs ++ [Ch.setRec 3 ls tx b.k b.h b.v]) := by
  unfold Ch.backOne; simp only; rw [if_neg (by decide), hs, if_neg (by decide)]
theorem Ch.back_end {tx : Int} {ls : List (List Ch.Row)} {bs : List Ch.Bf} {k : Nat} (h : bs.length ≤ k) : Ch.backAll tx ls (bs.drop k) = (0, ls, []) := by
  rw [List.drop_of_length_le h]; rfl
theorem Ch.back_next {tx : Int} {ls : List (List Ch.Row)} {bs : List Ch.Bf} {k : Nat} (h : k < bs.length) : Ch.backAll tx ls (bs.drop k) = Ch.backOne tx (Ch.backAll tx ls (bs.drop (k + 1))) (bs.getD k Ch.Bf.zero) := by
  rw [Ch.bef_drop h]; rfl
/-- What a step keeps: leaves without a fault, few records. -/
theorem Ch.back_keeps {tx : Int} {ls : List (List Ch.Row)} (hg : Ch.leavesFault ls = 0) (bs : List Ch.Bf) : Ch.lvSize (Ch.backAll tx ls bs).2.1 ≤ 1048576 ∧ (Ch.backAll tx ls bs).2.2.length ≤ bs.length ∧ ((Ch.backAll tx ls bs).1 = 0 → Ch.leavesFault (Ch.backAll tx ls bs).2.1 = 0) := by
  induction bs with
  | nil => exact ⟨Ch.good_size hg, by simp [Ch.backAll], fun _ => hg⟩
  | cons b bs ih =>
    have e : Ch.backAll tx ls (b :: bs) = Ch.backOne tx (Ch.backAll tx ls bs) b := rfl
    rw [e]
    obtain ⟨h1, h2, h3⟩ := ih
    generalize Ch.backAll tx ls bs = st at *
    obtain ⟨c, l, r⟩ := st
    simp only at h1 h2 h3
    by_cases hc : c = 0
    · subst hc
      by_cases hs : (Ch.setR l tx b.k b.h b.v).1 = 0
      · rw [Ch.back_ok hs]
        have hz := Ch.setR_small (ls := l) (tx := tx) (key := b.k) (v := b.v) (has := b.h)
        refine ⟨hz.1, by simp; omega, fun _ => ?_⟩
        by_cases hf : Ch.setF l tx [⟨b.k, b.h, b.v⟩] = 0
        · by_cases hm : (Ch.setLs l b.k b.h b.v).1 = 0
          · rw [Ch.setR_ok hf hm]; exact Ch.setLs_good hf hm
          · rw [Ch.setR_many hf rfl (by simpa using hm)] at hs; exact absurd hs hm
        · rw [Ch.setR_code rfl (by simpa using hf)] at hs; exact absurd hs hf
      · rw [Ch.back_many rfl (by simpa using hs)]
        exact ⟨by simp [Ch.lvSize], by simp, fun h => absurd h hs⟩
    · rw [Ch.back_code (by simpa using hc)]
      exact ⟨h1, by simp; omega, h3⟩
theorem Ch.undoR_code {ls : List (List Ch.Row)} {tx c : Int} {bs : List Ch.Bf} (h : Ch.setF ls tx bs = c) (hc : (c != 0) = true) : Ch.undoR ls tx bs = (c, [], []) := by
  rw [Ch.undoR, h, if_pos hc]
theorem Ch.undoR_ok {ls : List (List Ch.Row)} {tx : Int} {bs : List Ch.Bf} (h : Ch.setF ls tx bs = 0) : Ch.undoR ls tx bs = Ch.backAll tx ls bs := by
  rw [Ch.undoR, h, if_neg (by decide)]
/-- The record of a step is that of the change, as one that goes back. -/
theorem Ch.setR_rec {ls : List (List Ch.Row)} {tx key v : Int} {has : Bool} (h : (Ch.setR ls tx key has v).1 = 0) : (Ch.setR ls tx key has v).2.2 = [Ch.setRec 2 ls tx key has v] := by
  by_cases hf : Ch.setF ls tx [⟨key, has, v⟩] = 0
  · by_cases hm : (Ch.setLs ls key has v).1 = 0
    · rw [Ch.setR_ok hf hm]
    · rw [Ch.setR_many hf rfl (by simpa using hm)] at h; exact absurd h hm
  · rw [Ch.setR_code rfl (by simpa using hf)] at h; exact absurd h hf
end Go.Proofs.Ythfanfnbjldddaa
