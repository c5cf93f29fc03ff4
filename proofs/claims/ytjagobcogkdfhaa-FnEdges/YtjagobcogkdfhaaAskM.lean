
/- A lock asked for, plainly. -/
import Derived.Test.YtjagobcogkdfhaaLkEM
namespace Go.Proofs.Ytjagobcogkdfhaa.Ch
/-- The place of a resource among the locks. -/
def placeR (r : Int) : List Lock → Nat
  | [] => 0
  | l :: ls => if l.r < r then placeR r ls + 1 else 0
theorem place_le (r : Int) (ls : List Lock) : placeR r ls ≤ ls.length := by
  induction ls with
  | nil => exact Nat.le_refl _
  | cons q qs ih => unfold placeR; split <;> simp <;> omega
theorem place_lt (r : Int) (ls : List Lock) {k : Nat} (hk : k < placeR r ls) : (lkAt ls k).r < r := by
  induction ls generalizing k with
  | nil => simp [placeR] at hk
  | cons q qs ih =>
    unfold placeR at hk
    split at hk
    · cases k with
      | zero => simpa [lkAt] using ‹_›
      | succ k => simpa [lkAt] using ih (by omega)
    · omega
theorem place_at (r : Int) (ls : List Lock) (hk : placeR r ls < ls.length) : ¬ (lkAt ls (placeR r ls)).r < r := by
  induction ls with
  | nil => simp at hk
  | cons q qs ih =>
    unfold placeR at hk ⊢
    split
    · next h =>
      rw [if_pos h] at hk
      simpa [lkAt] using ih (by simpa using hk)
    · next h => simpa [lkAt] using h
theorem place_is {r : Int} {ls : List Lock} {k : Nat} (hk : k ≤ ls.length) (h1 : ∀ j, j < k → (lkAt ls j).r < r) (h2 : k < ls.length → ¬ (lkAt ls k).r < r) : placeR r ls = k := by
  rcases Nat.lt_trichotomy (placeR r ls) k with h | h | h
  · have := h1 _ h
    exact absurd this (place_at r ls (by omega))
  · exact h
  · have := place_lt r ls h
    have hl := place_le r ls
    exact absurd this (h2 (by omega))
/-- Is there a lock of the resource? -/
def thereR (r : Int) (ls : List Lock) : Bool := decide (placeR r ls < ls.length) && ((lkAt ls (placeR r ls)).r == r)
/-- The locks with one of the resource. -/
def withL (r : Int) (ls : List Lock) : List Lock := if thereR r ls then ls else ls.take (placeR r ls) ++ [⟨r, [], []⟩] ++ ls.drop (placeR r ls)
theorem with_yes {r : Int} {ls : List Lock} {k : Nat} (hk : k ≤ ls.length) (h1 : ∀ j, j < k → (lkAt ls j).r < r) (h2 : k < ls.length) (he : (lkAt ls k).r = r) : placeR r ls = k ∧ withL r ls = ls := by
  have hp : placeR r ls = k := place_is hk h1 (fun _ => by omega)
  refine ⟨hp, ?_⟩
  unfold withL thereR
  rw [hp, if_pos (by simp [h2, he])]
theorem with_no {r : Int} {ls : List Lock} {k : Nat} (hk : k ≤ ls.length) (h1 : ∀ j, j < k → (lkAt ls j).r < r) (h2 : k < ls.length → r < (lkAt ls k).r) : placeR r ls = k ∧ withL r ls = ls.take k ++ [⟨r, [], []⟩] ++ ls.drop k := by
  have hp : placeR r ls = k := place_is hk h1 (fun h => by have := h2 h; omega)
  refine ⟨hp, ?_⟩
  unfold withL thereR
  rw [hp, if_neg]
  simp only [Bool.and_eq_true, decide_eq_true_eq, beq_iff_eq, not_and]
  intro h e
  have := h2 h; omega
theorem lk_ins (ls : List Lock) (l : Lock) (k i : Nat) (hk : k ≤ ls.length) : lkAt (ls.take k ++ [l] ++ ls.drop k) i = if i < k then lkAt ls i else if i = k then l else lkAt ls (i - 1) := by
  unfold lkAt
  simp only [List.getD]
  have hlen : (ls.take k).length = k := by simp; omega
  split
  · next h => rw [List.append_assoc, List.getElem?_append_left (by omega), List.getElem?_take_of_lt h]
  · next h =>
    split
    · next h2 => subst h2; rw [List.append_assoc, List.getElem?_append_right (by omega), hlen]; simp
    · next h2 =>
      rw [List.getElem?_append_right (by simp; omega)]
      simp only [List.length_append, hlen, List.length_singleton, List.getElem?_drop]
      congr 3; omega
/-- One more in the queue. -/
def enterL (l : Lock) (k : Nat) (h : Hold) : Bool × Int × Lock := if 20 ≤ l.qs.length then (false, 2, l) else (false, 0, ⟨l.r, l.hs, l.qs.take k ++ [h] ++ l.qs.drop k⟩)
def askOne (l : Lock) (t m : Int) : Bool × Int × Lock :=
  if covers (modeH l.hs t) m then (true, 0, l)
  else if modeH l.hs t == 0 && (!fitsH l.hs t (join (modeH l.hs t) m) || decide (0 < l.qs.length)) then enterL l l.qs.length ⟨t, join (modeH l.hs t) m⟩
  else if !fitsH l.hs t (join (modeH l.hs t) m) then enterL l (convH l.hs l.qs) ⟨t, join (modeH l.hs t) m⟩
  else if !(hasH l.hs t || decide (l.hs.length < 20)) then (false, 2, l)
  else (true, 0, ⟨l.r, putH l.hs ⟨t, join (modeH l.hs t) m⟩, l.qs⟩)
def askAt (ls : List Lock) (t r m : Int) : Bool × Int × Lock := askOne (lkAt (withL r ls) (placeR r ls)) t m
def askC (ls : List Lock) (t r m : Int) : Int := if askedT ls t != 0 then askedT ls t else if !(inB r 0 100 && inB m 1 5) then 3 else if waitsB ls t then 10 else 0
/-- What AskLock answers: the code, granted, the locks. -/
def askR (ls : List Lock) (t r m : Int) : Int × Bool × List Lock :=
  if askC ls t r m != 0 then (askC ls t r m, false, [])
  else if (askAt ls t r m).2.1 != 0 then ((askAt ls t r m).2.1, false, [])
  else (0, (askAt ls t r m).1, ((withL r ls).set (placeR r ls) (askAt ls t r m).2.2))
theorem with_len (r : Int) (ls : List Lock) : placeR r ls < (withL r ls).length ∧ (withL r ls).length ≤ ls.length + 1 := by
  have := place_le r ls
  unfold withL
  split
  · next h =>
    unfold thereR at h
    simp only [Bool.and_eq_true, decide_eq_true_eq] at h
    exact ⟨h.1, by omega⟩
  · simp; omega
end Go.Proofs.Ytjagobcogkdfhaa.Ch
