
/- Plain facts of SetValue. -/
import Derived.Test.YthfanfnbjldddaaUnM
import Derived.Test.YthfanfnbjldddaaLvsM
import Derived.Test.YthfanfnbjldddaaPutF
import Derived.Test.YthfanfnbjldddaaRecM
namespace Go.Proofs.Ythfanfnbjldddaa

theorem Ch.into_same {r : Ch.Row} {l : List Ch.Row} (hp : l.Pairwise (fun a b => a.k < b.k)) (hm : ∃ x ∈ l, x.k = r.k) : (Ch.into r l).length = l.length := by
  induction l with
  | nil => obtain ⟨x, hx, _⟩ := hm; cases hx
  | cons y l ih =>
    rw [List.pairwise_cons] at hp
    unfold Ch.into
    obtain ⟨x, hx, hk⟩ := hm
    by_cases hy : y.k < r.k
    · rw [if_pos hy]
      rcases List.mem_cons.1 hx with rfl | hx
      · omega
      · simp [ih hp.2 ⟨x, hx, hk⟩]
    · rw [if_neg hy]
      have hyk : y.k = r.k := by
        rcases List.mem_cons.1 hx with rfl | hx
        · exact hk
        · have := hp.1 x hx; omega
      have h1 : Ch.notK r.k y = false := by simp [Ch.notK, hyk]
      have h2 : l.filter (Ch.notK r.k) = l := List.filter_eq_self.2 fun z hz => by
        have := hp.1 z hz
        simp [Ch.notK]; omega
      rw [List.filter_cons_of_neg (by rw [h1]; exact Bool.false_ne_true), h2]
      simp
theorem Ch.into_grow (r : Ch.Row) (l : List Ch.Row) : (Ch.into r l).length ≤ l.length + 1 := by
  induction l with
  | nil => simp [Ch.into]
  | cons y l ih =>
    unfold Ch.into
    split
    · simp; exact ih
    · have := List.length_filter_le (Ch.notK r.k) (y :: l)
      simp at this ⊢; exact this

theorem Ch.flat_len3 (ls : List (List Ch.Row)) (i : Nat) (h : i < ls.length) (m : List (List Ch.Row)) : (ls.take i ++ m ++ ls.drop (i + 1)).flatten.length + (ls.getD i []).length = ls.flatten.length + m.flatten.length := by
  have e : ls = ls.take i ++ [ls.getD i []] ++ ls.drop (i + 1) := by
    rw [← Ch.take_snoc ls [] i h, List.take_append_drop]
  have : ls.flatten.length = (ls.take i).flatten.length + (ls.getD i []).length + (ls.drop (i + 1)).flatten.length := by
    conv => lhs; rw [e]
    simp
    omega
  simp at this ⊢
  omega

/-- A row that is there is put in its place: no leaf comes to it. -/
theorem Ch.put_stays {ls : List (List Ch.Row)} (hg : Ch.leavesFault ls = 0) (r : Ch.Row) (hf : (Ch.findR ls r.k).isSome = true) : (Ch.put ls r).length = ls.length := by
  obtain ⟨x, hx⟩ := Option.isSome_iff_exists.1 hf
  unfold Ch.findR at hx
  have hxm := List.mem_of_find?_eq_some hx
  have hxk : x.k = r.k := by have := List.find?_some hx; simpa using this
  obtain ⟨_, h4, _, hp⟩ := (Ch.good_iff ls).1 hg
  have hl := Ch.into_same (r := r) hp ⟨x, hxm, hxk⟩
  rw [← Ch.put_flat hg] at hl
  have hne : ls.length ≠ 0 := by
    intro h0
    have : ls = [] := List.eq_nil_of_length_eq_zero h0
    subst this
    simp at hxm
  have hfi : Ch.forAt ls r.k ls.length < ls.length := Ch.forAt_lt (by omega)
  unfold Ch.put at hl ⊢
  rw [if_neg hne] at hl ⊢
  generalize Ch.forAt ls r.k ls.length = i at *
  have h3 := Ch.flat_len3 ls i hfi (Ch.halves (Ch.into r (ls.getD i [])))
  rw [Ch.halves_flat] at h3
  have hi4 : (ls.getD i []).length ≤ 4 := (h4 (ls.getD i []) (by simp [List.getD, hfi])).2
  have hlen : (Ch.into r (ls.getD i [])).length ≤ 4 := by omega
  unfold Ch.halves
  rw [if_pos hlen]
  simp
  omega

/-- What is asked ahead of a change. -/
def Ch.setF (ls : List (List Ch.Row)) (tx : Int) (bs : List Ch.Bf) : Int := if Ch.leavesFault ls != 0 then Ch.leavesFault ls else if Ch.inB tx 1 999 then Ch.befFault bs else 3
theorem Ch.bef_single (b : Ch.Bf) : Ch.befFault [b] = b.fault := by
  unfold Ch.befFault
  rw [if_neg (by simp)]
  unfold Ch.befOne
  cases h : (b.fault != 0)
  · have : b.fault = 0 := by simpa using h
    rw [this]; rfl
  · simp
/-- The leaves behind a change: a code, and the leaves. -/
def Ch.setLs (ls : List (List Ch.Row)) (key : Int) (has : Bool) (v : Int) : Int × List (List Ch.Row) :=
  if has then (if 60 < (Ch.put ls ⟨key, v, false⟩).length then (2, []) else (0, Ch.put ls ⟨key, v, false⟩))
  else if (Ch.findR ls key).isSome then (0, Ch.put ls ⟨key, 0, true⟩) else (0, ls)
/-- The record of a change. -/
def Ch.setRec (kd : Int) (ls : List (List Ch.Row)) (tx key : Int) (has : Bool) (v : Int) : Ch.Rec := ⟨kd, tx, key, (Ch.bf key (Ch.has ls key)).h, (Ch.bf key (Ch.has ls key)).v, has, v⟩
/-- What SetValue answers. -/
def Ch.setR (ls : List (List Ch.Row)) (tx key : Int) (has : Bool) (v : Int) : Int × List (List Ch.Row) × List Ch.Rec :=
  if Ch.setF ls tx [⟨key, has, v⟩] != 0 then (Ch.setF ls tx [⟨key, has, v⟩], [], []) else
    if (Ch.setLs ls key has v).1 != 0 then ((Ch.setLs ls key has v).1, [], []) else (0, (Ch.setLs ls key has v).2, [Ch.setRec 2 ls tx key has v])
theorem Ch.setR_code {ls : List (List Ch.Row)} {tx key v c : Int} {has : Bool} (h : Ch.setF ls tx [⟨key, has, v⟩] = c) (hc : (c != 0) = true) : Ch.setR ls tx key has v = (c, [], []) := by
  rw [Ch.setR, h, if_pos hc]
theorem Ch.setR_many {ls : List (List Ch.Row)} {tx key v c : Int} {has : Bool} (h : Ch.setF ls tx [⟨key, has, v⟩] = 0) (hs : (Ch.setLs ls key has v).1 = c) (hc : (c != 0) = true) : Ch.setR ls tx key has v = (c, [], []) := by
  rw [Ch.setR, h, if_neg (by decide), hs, if_pos hc]
theorem Ch.setR_ok {ls : List (List Ch.Row)} {tx key v : Int} {has : Bool} (h : Ch.setF ls tx [⟨key, has, v⟩] = 0) (hs : (Ch.setLs ls key has v).1 = 0) : Ch.setR ls tx key has v = (0, (Ch.setLs ls key has v).2, [Ch.setRec 2 ls tx key has v]) := by
  rw [Ch.setR, h, if_neg (by decide), hs, if_neg (by decide)]
/-- Where nothing is at fault. -/
theorem Ch.setF_zero {ls : List (List Ch.Row)} {tx key v : Int} {has : Bool} (h : Ch.setF ls tx [⟨key, has, v⟩] = 0) : Ch.leavesFault ls = 0 ∧ Ch.inB tx 1 999 = true ∧ Ch.inB key 0 99 = true ∧ Ch.inB v 0 9999 = true ∧ (has = false → v = 0) := by
  unfold Ch.setF at h
  rw [Ch.bef_single] at h
  by_cases h1 : (Ch.leavesFault ls != 0) = true
  · rw [if_pos h1] at h; rw [h] at h1; cases h1
  · rw [if_neg h1] at h
    by_cases h2 : Ch.inB tx 1 999 = true
    · rw [if_pos h2] at h
      unfold Ch.Bf.fault at h
      by_cases h3 : (!Ch.inB key 0 99 || !Ch.inB v 0 9999) = true
      · rw [if_pos h3] at h; cases h
      · rw [if_neg h3] at h
        by_cases h4 : (!has && v != 0) = true
        · rw [if_pos h4] at h; cases h
        · simp only [Bool.or_eq_true, Bool.not_eq_true', not_or, Bool.not_eq_false] at h3
          refine ⟨by simpa using h1, h2, h3.1, h3.2, fun hh => ?_⟩
          subst hh
          simpa using h4
    · rw [if_neg h2] at h; cases h
theorem Ch.asked_of {ls : List (List Ch.Row)} {key : Int} (hg : Ch.leavesFault ls = 0) (hk : Ch.inB key 0 99 = true) : Ch.asked ls key = 0 := by
  unfold Ch.asked
  rw [hg, hk]; rfl
theorem Ch.row_fine {key v : Int} (hk : Ch.inB key 0 99 = true) (hv : Ch.inB v 0 9999 = true) : (⟨key, v, false⟩ : Ch.Row).fault = 0 := by
  unfold Ch.Row.fault Ch.rowFault
  simp [hk, hv]
theorem Ch.ghost_fine {key : Int} (hk : Ch.inB key 0 99 = true) : (⟨key, 0, true⟩ : Ch.Row).fault = 0 := by
  unfold Ch.Row.fault Ch.rowFault
  have h0 : Ch.inB 0 0 9999 = true := by decide
  simp [hk, h0]
theorem Ch.setLs_has {ls : List (List Ch.Row)} {key v : Int} (hg : Ch.leavesFault ls = 0) (hk : Ch.inB key 0 99 = true) (hv : Ch.inB v 0 9999 = true) : Ch.setLs ls key true v = Ch.putR ls ⟨key, v, false⟩ := by
  unfold Ch.setLs Ch.putR
  rw [if_pos rfl, hg, Ch.row_fine hk hv]
  rfl
theorem Ch.setLs_ghost {ls : List (List Ch.Row)} {key v : Int} (hg : Ch.leavesFault ls = 0) (hk : Ch.inB key 0 99 = true) (hf : (Ch.findR ls key).isSome = true) : Ch.setLs ls key false v = Ch.putR ls ⟨key, 0, true⟩ := by
  unfold Ch.setLs Ch.putR
  rw [hg, Ch.ghost_fine hk, hf]
  have h1 := Ch.put_stays hg ⟨key, 0, true⟩ hf
  have h2 := ((Ch.good_iff ls).1 hg).1
  rw [h1, if_neg (show ¬ 60 < ls.length by omega)]
  rfl
theorem Ch.setLs_none {ls : List (List Ch.Row)} {key v : Int} (hf : Ch.findR ls key = none) : Ch.setLs ls key false v = (0, ls) := by
  unfold Ch.setLs
  rw [hf]; rfl
theorem Ch.good_size {ls : List (List Ch.Row)} (hg : Ch.leavesFault ls = 0) : Ch.lvSize ls ≤ 1048576 := by
  obtain ⟨h1, h2, _, _⟩ := (Ch.good_iff ls).1 hg
  have : ∀ (xs : List (List Ch.Row)), (∀ l ∈ xs, l.length ≤ 4) → (xs.map List.length).sum ≤ 4 * xs.length := by
    intro xs
    induction xs with
    | nil => intro _; simp
    | cons x xs ih =>
      intro h
      have := ih (fun l hl => h l (List.mem_cons_of_mem _ hl))
      have := h x (List.mem_cons_self ..)
      simp; omega
  have := this ls (fun l hl => (h2 l hl).2)
  unfold Ch.lvSize
  omega
theorem Ch.setLs_good {ls : List (List Ch.Row)} {tx key v : Int} {has : Bool} (h : Ch.setF ls tx [⟨key, has, v⟩] = 0) (hs : (Ch.setLs ls key has v).1 = 0) : Ch.leavesFault (Ch.setLs ls key has v).2 = 0 := by
  obtain ⟨hg, _, hk, hv, _⟩ := Ch.setF_zero h
  cases has
  · cases hf : Ch.findR ls key with
    | none => rw [Ch.setLs_none hf]; exact hg
    | some r =>
      have hi : (Ch.findR ls key).isSome = true := by rw [hf]; rfl
      have h1 := Ch.put_stays hg ⟨key, 0, true⟩ hi
      have h2 := ((Ch.good_iff ls).1 hg).1
      have e : Ch.setLs ls key false v = (0, Ch.put ls ⟨key, 0, true⟩) := by unfold Ch.setLs; rw [hi]; rfl
      rw [e]
      exact Ch.put_good hg (Ch.ghost_fine hk) (by omega)
  · unfold Ch.setLs at hs ⊢
    rw [if_pos rfl] at hs ⊢
    by_cases hm : 60 < (Ch.put ls ⟨key, v, false⟩).length
    · rw [if_pos hm] at hs; cases hs
    · rw [if_neg hm]
      exact Ch.put_good hg (Ch.row_fine hk hv) (by omega)
theorem Ch.setR_small {ls : List (List Ch.Row)} {tx key v : Int} {has : Bool} : Ch.lvSize (Ch.setR ls tx key has v).2.1 ≤ 1048576 ∧ (Ch.setR ls tx key has v).2.2.length ≤ 1 := by
  by_cases h : Ch.setF ls tx [⟨key, has, v⟩] = 0
  · by_cases hs : (Ch.setLs ls key has v).1 = 0
    · rw [Ch.setR_ok h hs]
      exact ⟨Ch.good_size (Ch.setLs_good h hs), by simp⟩
    · rw [Ch.setR_many h rfl (by simpa using hs)]
      exact ⟨by simp [Ch.lvSize], by simp⟩
  · rw [Ch.setR_code rfl (by simpa using h)]
    exact ⟨by simp [Ch.lvSize], by simp⟩
end Go.Proofs.Ythfanfnbjldddaa
