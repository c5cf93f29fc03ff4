
/- Plain: who is gone from a lock, who is let in. -/
import Derived.Test.YtjagobcogkdfhaaLkXM
namespace Go.Proofs.Ytjagobcogkdfhaa.Ch
def withoutH (hs : List Hold) (t : Int) : List Hold := hs.filter fun h => !(h.t == t)
theorem without_yes {hs : List Hold} {t : Int} {k : Nat} (hk : k < hs.length) (h : (hs.getD k Hold.zero).t ≠ t) : withoutH (hs.take (k + 1)) t = withoutH (hs.take k) t ++ [hs.getD k Hold.zero] := by
  unfold withoutH
  rw [take_snoc hs Hold.zero k hk, List.filter_append]
  generalize hs.getD k Hold.zero = r at *
  simp [h]
theorem without_no {hs : List Hold} {t : Int} {k : Nat} (hk : k < hs.length) (h : (hs.getD k Hold.zero).t = t) : withoutH (hs.take (k + 1)) t = withoutH (hs.take k) t := by
  unfold withoutH
  rw [take_snoc hs Hold.zero k hk, List.filter_append]
  generalize hs.getD k Hold.zero = r at *
  simp [h]
theorem without_len (hs : List Hold) (t : Int) : (withoutH hs t).length ≤ hs.length := List.length_filter_le _ _
theorem without_names {hs : List Hold} (h : namesH hs = true) (t : Int) : namesH (withoutH hs t) = true := by
  unfold namesH withoutH at *
  rw [List.all_eq_true] at *
  intro x hx
  exact h x (List.mem_filter.1 hx).1
theorem without_twice {hs : List Hold} (h : twice hs = false) (t : Int) : twice (withoutH hs t) = false := by
  rw [twice_pair] at *
  exact h.sublist List.filter_sublist
theorem without_head {h : Hold} {q : List Hold} (ht : twice (h :: q) = false) : withoutH (h :: q) h.t = q := by
  rw [twice_pair, List.pairwise_cons] at ht
  unfold withoutH
  rw [List.filter_cons_of_neg (by simp)]
  rw [List.filter_eq_self]
  intro a ha
  have := ht.1 a ha
  simpa using fun e : a.t = h.t => this e.symm
theorem twice_tail {h : Hold} {q : List Hold} (ht : twice (h :: q) = false) : twice q = false := by
  rw [twice_pair, List.pairwise_cons] at ht
  rw [twice_pair]; exact ht.2
/-- A transaction holds a mode then: in place of what it held, else behind the others. -/
def putH (hs : List Hold) (h : Hold) : List Hold := if hasH hs h.t then hs.set (atH hs h.t).toNat h else hs ++ [h]
theorem putH_yes {hs : List Hold} {h : Hold} {k : Nat} (h1 : hasH hs h.t = true) (h2 : atH hs h.t = (k : Int)) : putH hs h = hs.set k h := by
  unfold putH; rw [h1, h2]; simp
theorem putH_no {hs : List Hold} {h : Hold} (h1 : hasH hs h.t = false) : putH hs h = hs ++ [h] := by
  unfold putH; rw [h1]; rfl
theorem putH_len (hs : List Hold) (h : Hold) : (putH hs h).length ≤ hs.length + 1 := by
  unfold putH; split <;> simp
theorem putH_names {hs : List Hold} {h : Hold} (hn : namesH hs = true) (hh : nameH h = true) : namesH (putH hs h) = true := by
  unfold namesH at *
  rw [List.all_eq_true] at *
  intro x hx
  unfold putH at hx
  split at hx
  · rcases List.mem_or_eq_of_mem_set hx with h1 | h1
    · exact hn x h1
    · rw [h1]; exact hh
  · rw [List.mem_append] at hx
    rcases hx with h1 | h1
    · exact hn x h1
    · simp at h1; rw [h1]; exact hh
/-- As long as the head fits it is let in: those that hold then, those that wait still, those that were let in. -/
def admitL (hs : List Hold) : List Hold → List Hold × List Hold × List Int
  | [] => (hs, [], [])
  | h :: q => if headFits hs (h :: q) then ((admitL (putH hs h) q).1, (admitL (putH hs h) q).2.1, h.t :: (admitL (putH hs h) q).2.2) else (hs, h :: q, [])
theorem admit_no {hs qs : List Hold} (h : headFits hs qs = false) : admitL hs qs = (hs, qs, []) := by
  cases qs with
  | nil => rfl
  | cons q qs => unfold admitL; rw [h]; rfl
theorem admit_yes {hs q : List Hold} {h : Hold} (hf : headFits hs (h :: q) = true) : admitL hs (h :: q) = ((admitL (putH hs h) q).1, (admitL (putH hs h) q).2.1, h.t :: (admitL (putH hs h) q).2.2) := by
  conv => lhs; unfold admitL
  rw [hf]; rfl
theorem admit_len (hs qs : List Hold) : (admitL hs qs).1.length + (admitL hs qs).2.1.length ≤ hs.length + qs.length ∧ (admitL hs qs).2.2.length ≤ qs.length := by
  induction qs generalizing hs with
  | nil => simp [admitL]
  | cons q qs ih =>
    unfold admitL
    split
    · have := ih (putH hs q)
      have := putH_len hs q
      simp only [List.length_cons]
      omega
    · simp
/-- A lock that a transaction leaves. -/
def freeOne (l : Lock) (t : Int) : Lock := ⟨l.r, (admitL (withoutH l.hs t) (withoutH l.qs t)).1, (admitL (withoutH l.hs t) (withoutH l.qs t)).2.1⟩
def freeGot (l : Lock) (t : Int) : List Int := (admitL (withoutH l.hs t) (withoutH l.qs t)).2.2
def freeAll (ls : List Lock) (t : Int) : List Lock := ls.map fun l => freeOne l t
def freeInts (ls : List Lock) (t : Int) : List Int := ls.flatMap fun l => freeGot l t
theorem freeInts_next (ls : List Lock) (t : Int) (k : Nat) (h : k < ls.length) : freeInts (ls.take (k + 1)) t = freeInts (ls.take k) t ++ freeGot (lkAt ls k) t := by
  unfold freeInts lkAt
  rw [take_snoc ls Lock.zero k h]; simp
/-- The locks behind k of them. -/
def freedTo (ls : List Lock) (t : Int) (k : Nat) : List Lock := freeAll (ls.take k) t ++ ls.drop k
theorem freedTo_at (ls : List Lock) (t : Int) (k : Nat) (h : k < ls.length) : lkAt (freedTo ls t k) k = lkAt ls k := by
  unfold freedTo freeAll lkAt
  rw [List.getD, List.getElem?_append_right (by simp; omega)]
  simp [List.getD, Nat.min_eq_left (Nat.le_of_lt h)]
theorem freedTo_len (ls : List Lock) (t : Int) (k : Nat) (h : k ≤ ls.length) : (freedTo ls t k).length = ls.length := by
  unfold freedTo freeAll
  simp; omega
theorem freedTo_set (ls : List Lock) (t : Int) (k : Nat) (h : k < ls.length) : (freedTo ls t k).set k (freeOne (lkAt ls k) t) = freedTo ls t (k + 1) := by
  unfold freedTo freeAll
  rw [List.set_append_right _ _ (by simp; omega)]
  have e : k - (List.map (fun l => freeOne l t) (List.take k ls)).length = 0 := by simp; omega
  rw [e, take_snoc ls Lock.zero k h, List.drop_eq_getElem_cons h, List.map_append]
  simp only [List.set_cons_zero, List.map_cons, List.map_nil, List.append_assoc, List.cons_append, List.nil_append]
  rfl
/-- What FreeLocks answers: the code, who was let in, the locks. -/
def freeR (ls : List Lock) (t : Int) : Int × List Int × List Lock := if askedT ls t != 0 then (askedT ls t, [], []) else (0, freeInts ls t, (freeAll ls t).filter fun l => !(l.hs.length + l.qs.length == 0))
theorem freeR_bad {ls : List Lock} {t c : Int} (h : askedT ls t = c) (h0 : c ≠ 0) : freeR ls t = (c, [], []) := by
  unfold freeR; rw [h, if_pos (by simpa using h0)]
theorem freeR_ok {ls : List Lock} {t : Int} (h : askedT ls t = 0) : freeR ls t = (0, freeInts ls t, (freeAll ls t).filter fun l => !(l.hs.length + l.qs.length == 0)) := by
  unfold freeR; rw [h]; rfl
theorem good_few {ls : List Lock} (h : locksFault ls = 0) : ls.length ≤ 101 := by
  have hi : ∀ i, i < ls.length → (i : Int) ≤ (lkAt ls i).r := by
    intro i
    induction i with
    | zero => intro hl; exact (one_good ((locks_good h).1 0 hl)).1
    | succ i ih =>
      intro hl
      have h1 := ih (by omega)
      have h2 := res_rise h (show i < i + 1 by omega) hl
      omega
  rcases Nat.eq_zero_or_pos ls.length with h0 | h0
  · omega
  · have h1 := hi (ls.length - 1) (by omega)
    have h2 := (one_good ((locks_good h).1 (ls.length - 1) (by omega))).2.1
    omega
end Go.Proofs.Ytjagobcogkdfhaa.Ch
