/- Plain: a line cut at a byte, its words. No Go in it. -/
import Derived.Lib.SlSplitV
import Derived.Lib.CountLaws
namespace Go.Proofs.YtalhmogaogaekaaDoor.Ch

/-- What is cut at each byte c; acc: the piece that stands open. -/
def cutF (c : UInt8) : List UInt8 → List UInt8 → List (List UInt8)
  | acc, [] => [acc]
  | acc, b :: r => if b == c then acc :: cutF c [] r else cutF c (acc ++ [b]) r
theorem cutF_cons (c : UInt8) (acc : List UInt8) (b : UInt8) (r : List UInt8) : cutF c acc (b :: r) = if b == c then acc :: cutF c [] r else cutF c (acc ++ [b]) r := rfl
def cutL (c : UInt8) (l : List UInt8) : List (List UInt8) := cutF c [] l

theorem cutF_none (c : UInt8) : ∀ (l acc : List UInt8), (∀ b ∈ l, b ≠ c) → cutF c acc l = [acc ++ l]
  | [], acc, _ => by simp [cutF]
  | b :: r, acc, h => by
    have hb : (b == c) = false := by simpa using h b (by simp)
    rw [cutF_cons, hb, if_neg (by simp), cutF_none c r _ (fun x hx => h x (by simp [hx]))]
    simp
theorem cutF_hit (c : UInt8) : ∀ (l acc : List UInt8) (i : Nat), l[i]? = some c → (∀ j, j < i → l[j]? ≠ some c) → cutF c acc l = (acc ++ l.take i) :: cutF c [] (l.drop (i + 1))
  | [], _, i, h, _ => by simp at h
  | b :: r, acc, 0, h, _ => by
    simp at h
    subst h
    rw [cutF_cons]
    simp
  | b :: r, acc, i + 1, h, hn => by
    have hb : (b == c) = false := by
      have := hn 0 (by omega)
      simpa using this
    rw [cutF_cons, hb, if_neg (by simp), cutF_hit c r _ i (by simpa using h) (fun j hj => by have := hn (j + 1) (by omega); simpa using this)]
    simp

theorem occ_one (l : List UInt8) (c : UInt8) (j : Nat) : Lib.occAt l [c] j = decide (l[j]? = some c) := by
  unfold Lib.occAt
  by_cases hj : j < l.length
  · rw [List.drop_eq_getElem_cons hj]
    simp only [List.isPrefixOf, Bool.and_true, List.getElem?_eq_getElem hj, Option.some.injEq]
    by_cases he : c = l[j]
    · simp [← he]
    · have h2 : ¬ l[j] = c := fun e => he e.symm
      simp [he, h2]
  · rw [List.drop_of_length_le (by omega)]
    simp [hj, List.isPrefixOf]

theorem split_cut (c : UInt8) : ∀ (n : Nat) (l : List UInt8), l.length ≤ n → Lib.split l [c] = cutL c l := by
  intro n
  induction n with
  | zero =>
    intro l hl
    have : l = [] := List.length_eq_zero_iff.1 (by omega)
    subst this
    rfl
  | succ n ih =>
    intro l hl
    rcases Lib.index_spec l [c] with ⟨h1, h2⟩ | ⟨i, h1, h2, h3, h4⟩
    · unfold Lib.split
      rw [Lib.count_miss h1]
      show [l] = _
      unfold cutL
      rw [cutF_none c l [] (fun b hb => by
        obtain ⟨j, hj, he⟩ := List.getElem_of_mem hb
        have := h2 j (by omega)
        rw [occ_one] at this
        have := of_decide_eq_false this
        rw [List.getElem?_eq_getElem hj, he] at this
        exact fun e => this (by rw [e]))]
      rfl
    · have hi : l[i]? = some c := by rw [occ_one] at h3; exact of_decide_eq_true h3
      have hn : ∀ j, j < i → l[j]? ≠ some c := fun j hj => by
        have := h4 j hj
        rw [occ_one] at this
        exact of_decide_eq_false this
      have hil : i < l.length := (List.getElem?_eq_some_iff.1 hi).1
      have hm : ¬ (Lib.index l [c] == -1) = true := fun e => by have := beq_iff_eq.1 e; omega
      have e : (Lib.index l [c]).toNat = i := by omega
      unfold Lib.split
      rw [Lib.count_hit (by simp) h1, Nat.add_comm 1, Lib.splitK, if_neg hm, e]
      unfold cutL
      rw [cutF_hit c l [] i hi hn]
      have := ih (l.drop (i + 1)) (by rw [List.length_drop]; omega)
      unfold Lib.split cutL at this
      simp only [List.length_cons, List.length_nil, Nat.zero_add, Nat.add_zero, List.nil_append]
      rw [this]

/-- What is still to come where the loop stands at i and the piece that stands open began at f. -/
def cutAt (c : UInt8) (l : List UInt8) (i f : Nat) : List (List UInt8) := cutF c ((l.drop f).take (i - f)) (l.drop i)
theorem cutAt_zero (c : UInt8) (l : List UInt8) : cutAt c l 0 0 = cutL c l := by simp [cutAt, cutL]
theorem cutAt_end (c : UInt8) (l : List UInt8) (i f : Nat) (h : i = l.length) : cutAt c l i f = [(l.drop f).take (i - f)] := by
  unfold cutAt
  rw [show l.drop i = [] from List.drop_of_length_le (by omega)]
  rfl
theorem cutAt_yes (c : UInt8) (l : List UInt8) (i f : Nat) (h : i < l.length) (hc : l[i] = c) : cutAt c l i f = (l.drop f).take (i - f) :: cutAt c l (i + 1) (i + 1) := by
  unfold cutAt
  rw [List.drop_eq_getElem_cons h, cutF, hc]
  simp
theorem cutAt_no (c : UInt8) (l : List UInt8) (i f : Nat) (h : i < l.length) (hf : f ≤ i) (hc : l[i] ≠ c) : cutAt c l i f = cutAt c l (i + 1) f := by
  unfold cutAt
  rw [List.drop_eq_getElem_cons h, cutF, if_neg (by simpa using hc)]
  congr 1
  rw [show i + 1 - f = (i - f) + 1 by omega, List.take_add_one]
  congr 1
  rw [List.getElem?_drop, show f + (i - f) = i by omega, List.getElem?_eq_getElem h]
  rfl

def mkB (l : List UInt8) : ByteArray := ⟨l.toArray⟩
/-- The words among pieces. -/
def wordsL (ps : List ByteArray) : List ByteArray := ps.filter fun b => decide (0 < b.size)
theorem wordsL_yes (ps : List ByteArray) (k : Nat) (d : ByteArray) (h : k < ps.length) (h1 : 0 < (ps.getD k d).size) : wordsL (ps.take (k + 1)) = wordsL (ps.take k) ++ [ps.getD k d] := by
  unfold wordsL
  rw [List.take_succ_eq_append_getElem h, List.filter_append]
  simp [List.getD, h] at h1 ⊢
  simp [h1]
theorem wordsL_no (ps : List ByteArray) (k : Nat) (d : ByteArray) (h : k < ps.length) (h1 : ¬ 0 < (ps.getD k d).size) : wordsL (ps.take (k + 1)) = wordsL (ps.take k) := by
  unfold wordsL
  rw [List.take_succ_eq_append_getElem h, List.filter_append]
  simp [List.getD, h] at h1 ⊢
  simp [h1]
def pieces (s : ByteArray) : List ByteArray := (cutL 32 s.data.toList).map mkB
def words (s : ByteArray) : List ByteArray := wordsL (pieces s)
theorem cutF_len (c : UInt8) : ∀ (l acc : List UInt8), (cutF c acc l).length ≤ l.length + 1 ∧ 0 < (cutF c acc l).length
  | [], _ => by simp [cutF]
  | b :: r, acc => by
    unfold cutF
    split
    · have := cutF_len c r []
      simp only [List.length_cons]
      omega
    · have := cutF_len c r (acc ++ [b])
      simp only [List.length_cons]
      omega
theorem pieces_len (s : ByteArray) : (pieces s).length ≤ s.size + 1 := by
  have := (cutF_len 32 s.data.toList []).1
  unfold pieces cutL
  rw [List.length_map]
  exact this
theorem wordsL_len (ps : List ByteArray) : (wordsL ps).length ≤ ps.length := List.length_filter_le _ _
end Go.Proofs.YtalhmogaogaekaaDoor.Ch
