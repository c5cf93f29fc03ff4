/- Plain: the keys that a transaction's acts write. -/
import Derived.Test.YtlpncikiaojmiaaStM
import Derived.Lib.SlicesCompact
namespace Go.Proofs.Ytlpncikiaojmiaa

/-- It is an act of txn that writes. -/
def Ch.Ac.wr (t : Ch.Ac) (txn : Int) : Bool := t.tx == txn && Ch.isW t.k
/-- The key is one that txn writes. -/
def Ch.wrote (ts : List Ch.Ac) (txn key : Int) : Bool := ts.any fun t => t.wr txn && t.a == key
/-- The keys below m that txn writes. -/
def Ch.wrTo (ts : List Ch.Ac) (txn : Int) (m : Nat) : List Int := ((List.range m).map fun (i : Nat) => (i : Int)).filter (Ch.wrote ts txn)
def Ch.wrL (ts : List Ch.Ac) (txn : Int) : List Int := Ch.wrTo ts txn 100
theorem Ch.wrTo_next (ts : List Ch.Ac) (txn : Int) (m : Nat) : Ch.wrTo ts txn (m + 1) = Ch.wrTo ts txn m ++ (if Ch.wrote ts txn (m : Int) = true then [(m : Int)] else []) := by
  unfold Ch.wrTo
  rw [List.range_succ, List.map_append, List.filter_append]
  congr 1
  by_cases h : Ch.wrote ts txn (m : Int) = true
  · simp [h]
  · simp [h]
theorem Ch.wrTo_len (ts : List Ch.Ac) (txn : Int) (m : Nat) : (Ch.wrTo ts txn m).length ≤ m := by
  unfold Ch.wrTo
  refine Nat.le_trans (List.length_filter_le _ _) (by simp)
theorem Ch.wrL_sorted (ts : List Ch.Ac) (txn : Int) : (Ch.wrL ts txn).Pairwise (· < ·) := by
  unfold Ch.wrL Ch.wrTo
  apply List.Pairwise.filter
  rw [List.pairwise_map]
  exact List.Pairwise.imp (fun h => by omega) List.pairwise_lt_range
theorem Ch.wrL_mem {ts : List Ch.Ac} (hf : ∀ k, k < ts.length → (Ch.acAt ts k).fault = 0) (txn t : Int) : t ∈ Ch.wrL ts txn ↔ Ch.wrote ts txn t = true := by
  unfold Ch.wrL Ch.wrTo
  simp only [List.mem_filter, List.mem_map, List.mem_range]
  constructor
  · rintro ⟨⟨i, hi, rfl⟩, h⟩
    exact h
  · intro h
    refine ⟨?_, h⟩
    unfold Ch.wrote at h
    rw [List.any_eq_true] at h
    obtain ⟨x, hx, h⟩ := h
    obtain ⟨k, hk, rfl⟩ := List.mem_iff_getElem.1 hx
    have e : Ch.acAt ts k = ts[k] := by simp [Ch.acAt, List.getD, hk]
    simp only [Ch.Ac.wr, Bool.and_eq_true, beq_iff_eq] at h
    have hb := Ch.write_key (e ▸ hf k hk) h.1.2
    rw [h.2] at hb
    unfold Ch.inB at hb
    simp only [Bool.and_eq_true, decide_eq_true_eq] at hb
    exact ⟨t.toNat, by omega, by omega⟩

/-- The keys of the writing acts among some. -/
def Ch.keysOf (ts : List Ch.Ac) (is : List Nat) : List Int := (is.filter fun i => Ch.isW (Ch.acAt ts i).k).map fun i => (Ch.acAt ts i).a
theorem Ch.keysOf_yes (ts : List Ch.Ac) (is : List Nat) (i : Nat) (h : Ch.isW (Ch.acAt ts i).k = true) : Ch.keysOf ts (is ++ [i]) = Ch.keysOf ts is ++ [(Ch.acAt ts i).a] := by
  unfold Ch.keysOf
  rw [List.filter_append, List.map_append]
  simp [h]
theorem Ch.keysOf_no (ts : List Ch.Ac) (is : List Nat) (i : Nat) (h : Ch.isW (Ch.acAt ts i).k = false) : Ch.keysOf ts (is ++ [i]) = Ch.keysOf ts is := by
  unfold Ch.keysOf
  rw [List.filter_append, List.map_append]
  simp [h]
theorem Ch.keysOf_len (ts : List Ch.Ac) (is : List Nat) : (Ch.keysOf ts is).length ≤ is.length := by
  unfold Ch.keysOf
  rw [List.length_map]
  exact List.length_filter_le _ _
/-- The places of txn's acts. -/
def Ch.actsOf (ts : List Ch.Ac) (txn : Int) (m : Nat) : List Nat := (List.range m).filter fun i => (Ch.acAt ts i).tx == txn
theorem Ch.actsOf_next (ts : List Ch.Ac) (txn : Int) (m : Nat) : Ch.actsOf ts txn (m + 1) = Ch.actsOf ts txn m ++ (if ((Ch.acAt ts m).tx == txn) = true then [m] else []) := by
  unfold Ch.actsOf
  rw [List.range_succ, List.filter_append]
  congr 1
  by_cases h : ((Ch.acAt ts m).tx == txn) = true
  · simp [h]
  · simp [h]
theorem Ch.actsOf_len (ts : List Ch.Ac) (txn : Int) (m : Nat) : (Ch.actsOf ts txn m).length ≤ m := by
  unfold Ch.actsOf
  refine Nat.le_trans (List.length_filter_le _ _) (by simp)
theorem Ch.keys_mem (ts : List Ch.Ac) (txn t : Int) : t ∈ Ch.keysOf ts (Ch.actsOf ts txn ts.length) ↔ Ch.wrote ts txn t = true := by
  unfold Ch.keysOf Ch.actsOf Ch.wrote
  rw [List.any_eq_true]
  simp only [List.mem_map, List.mem_filter, List.mem_range, Bool.and_eq_true, beq_iff_eq]
  constructor
  · rintro ⟨i, ⟨⟨h1, h2⟩, h3⟩, h4⟩
    have e : Ch.acAt ts i = ts[i] := by simp [Ch.acAt, List.getD, h1]
    refine ⟨ts[i], List.getElem_mem h1, ?_, e ▸ h4⟩
    rw [← e]
    simp only [Ch.Ac.wr, Bool.and_eq_true, beq_iff_eq]
    exact ⟨h2, h3⟩
  · rintro ⟨x, hx, h3, h4⟩
    obtain ⟨k, hk, rfl⟩ := List.mem_iff_getElem.1 hx
    have e : Ch.acAt ts k = ts[k] := by simp [Ch.acAt, List.getD, hk]
    rw [← e] at h3 h4
    simp only [Ch.Ac.wr, Bool.and_eq_true, beq_iff_eq] at h3
    exact ⟨k, ⟨⟨hk, h3.1⟩, h3.2⟩, h4⟩

/-- What is compacted of a sorted list is sorted, each once. -/
theorem Ch.comp_to (d : Array Int) (hs : ∀ i j, i ≤ j → j < d.size → d[i]! ≤ d[j]!) : ∀ m, m ≤ d.size → (Lib.compactUpTo d m).Pairwise (· < ·) ∧ (∀ x, x ∈ Lib.compactUpTo d m ↔ ∃ j, j < m ∧ d[j]! = x) := by
  intro m
  induction m with
  | zero => intro _; exact ⟨by simp [Lib.compactUpTo], fun x => by simp [Lib.compactUpTo]⟩
  | succ m ih =>
    intro hm
    obtain ⟨h1, h2⟩ := ih (by omega)
    rw [Lib.compactUpTo_succ]
    by_cases hk : Lib.keeps d m = true
    · rw [if_pos hk]
      refine ⟨List.pairwise_append.2 ⟨h1, by simp, fun x hx y hy => ?_⟩, fun x => ?_⟩
      · simp at hy
        subst hy
        obtain ⟨j, hj, rfl⟩ := (h2 x).1 hx
        simp only [Lib.keeps, decide_eq_true_eq] at hk
        rcases hk with h0 | h0
        · omega
        · have a := hs j (m - 1) (by omega) (by omega)
          have b := hs (m - 1) m (by omega) (by omega)
          omega
      · rw [List.mem_append, h2 x]
        simp only [List.mem_cons, List.not_mem_nil, or_false]
        constructor
        · rintro (⟨j, hj, e⟩ | e)
          · exact ⟨j, by omega, e⟩
          · exact ⟨m, by omega, e.symm⟩
        · rintro ⟨j, hj, e⟩
          rcases Nat.lt_or_ge j m with h | h
          · exact .inl ⟨j, h, e⟩
          · obtain rfl : j = m := by omega
            exact .inr e.symm
    · rw [if_neg hk, List.append_nil]
      refine ⟨h1, fun x => ?_⟩
      rw [h2 x]
      simp only [Lib.keeps, decide_eq_true_eq] at hk
      have hk' : m ≠ 0 ∧ d[m]! = d[m - 1]! := by
        constructor
        · intro h; exact hk (.inl h)
        · rcases Int.decEq d[m]! d[m - 1]! with h | h
          · exact absurd (.inr h) hk
          · exact h
      constructor
      · rintro ⟨j, hj, e⟩; exact ⟨j, by omega, e⟩
      · rintro ⟨j, hj, e⟩
        rcases Nat.lt_or_ge j m with h | h
        · exact ⟨j, h, e⟩
        · obtain rfl : j = m := by omega
          exact ⟨j - 1, by omega, by rw [← hk'.2]; exact e⟩
theorem Ch.same_lt {xs ys : List Int} (hx : xs.Pairwise (· < ·)) (hy : ys.Pairwise (· < ·)) (h : ∀ t, t ∈ xs ↔ t ∈ ys) : xs = ys := by
  have hp : xs.Perm ys := (List.perm_ext_iff_of_nodup (hx.imp (fun h e => by omega)) (hy.imp (fun h e => by omega))).2 h
  refine hp.eq_of_pairwise (le := fun x y => x ≤ y) ?_ ?_ ?_
  · intro a b _ _ h1 h2; omega
  · exact hx.imp (fun h => by omega)
  · exact hy.imp (fun h => by omega)
theorem Ch.comp_sort (zs : List Int) : (Lib.compact (zs.mergeSort fun x y => decide (x ≤ y))).Pairwise (· < ·) ∧ ∀ x, x ∈ Lib.compact (zs.mergeSort fun x y => decide (x ≤ y)) ↔ x ∈ zs := by
  have hs := List.pairwise_mergeSort (le := fun x y : Int => decide (x ≤ y)) (fun a b c h1 h2 => by simp at *; omega) (fun a b => by simp; omega) zs
  have hm : ∀ x, x ∈ (zs.mergeSort fun x y => decide (x ≤ y)) ↔ x ∈ zs := fun x => (List.mergeSort_perm zs _).mem_iff
  generalize (zs.mergeSort fun x y => decide (x ≤ y)) = S at *
  rw [List.pairwise_iff_getElem] at hs
  have key := Ch.comp_to S.toArray (fun i j hij hj => by
    have hj' : j < S.length := by simpa using hj
    rcases Nat.lt_or_ge i j with h | h
    · have := hs i j (by omega) hj' h
      simp only [decide_eq_true_eq] at this
      simpa [getElem!_pos, show i < S.length by omega, hj'] using this
    · obtain rfl : i = j := by omega
      exact Int.le_refl _) S.length (by simp)
  refine ⟨key.1, fun x => ?_⟩
  unfold Lib.compact
  rw [key.2 x, ← hm x]
  constructor
  · rintro ⟨j, hj, e⟩
    rw [← e]
    have : S.toArray[j]! = S[j] := by simp [getElem!_pos, hj]
    rw [this]
    exact List.getElem_mem hj
  · intro h
    obtain ⟨k, hk, e⟩ := List.mem_iff_getElem.1 h
    exact ⟨k, hk, by simp [getElem!_pos, hk, e]⟩
/-- Collected, sorted and compacted: the keys that txn writes. -/
theorem Ch.wr_is {ts : List Ch.Ac} (hf : ∀ k, k < ts.length → (Ch.acAt ts k).fault = 0) (txn : Int) : Lib.compact ((Ch.keysOf ts (Ch.actsOf ts txn ts.length)).mergeSort fun x y => decide (x ≤ y)) = Ch.wrL ts txn := by
  obtain ⟨h1, h2⟩ := Ch.comp_sort (Ch.keysOf ts (Ch.actsOf ts txn ts.length))
  refine Ch.same_lt h1 (Ch.wrL_sorted ts txn) (fun t => ?_)
  rw [h2 t, Ch.keys_mem, Ch.wrL_mem hf]

/-- WritesOf. -/
def Ch.wrR (ts : List Ch.Ac) (txn : Int) : Int × List Int := if Ch.acsF ts != 0 then (Ch.acsF ts, []) else if Ch.inB txn 1 999 = true then (0, Ch.wrL ts txn) else (3, [])
theorem Ch.wrR_bad {ts : List Ch.Ac} {txn c : Int} (h : Ch.acsF ts = c) (hc : (c != 0) = true) : Ch.wrR ts txn = (c, []) := by unfold Ch.wrR; rw [h, if_pos hc]
theorem Ch.wrR_txn {ts : List Ch.Ac} {txn : Int} (h : Ch.acsF ts = 0) (ht : Ch.inB txn 1 999 = false) : Ch.wrR ts txn = (3, []) := by unfold Ch.wrR; rw [h, ht]; rfl
theorem Ch.wrR_ok {ts : List Ch.Ac} {txn : Int} (h : Ch.acsF ts = 0) (ht : Ch.inB txn 1 999 = true) : Ch.wrR ts txn = (0, Ch.wrL ts txn) := by unfold Ch.wrR; rw [h, ht]; rfl
/-- An act of txn found among the first ones. -/
theorem Ch.wrote_none {ts : List Ch.Ac} {txn key : Int} {k : Nat} (hk : k < ts.length) (h : (ts.take k).any (fun t => t.wr txn && t.a == key) = false) (h' : ((Ch.acAt ts k).wr txn && (Ch.acAt ts k).a == key) = false) : (ts.take (k + 1)).any (fun t => t.wr txn && t.a == key) = false := by
  rw [Ch.take_snocA ts k hk, List.any_append, h]
  simp only [List.any_cons, List.any_nil, h', Bool.or_false]
theorem Ch.wrote_yes {ts : List Ch.Ac} {txn key : Int} {k : Nat} (hk : k < ts.length) (h' : ((Ch.acAt ts k).wr txn && (Ch.acAt ts k).a == key) = true) : Ch.wrote ts txn key = true := by
  unfold Ch.wrote
  rw [List.any_eq_true]
  exact ⟨ts[k], List.getElem_mem hk, by simpa [Ch.acAt, List.getD, hk] using h'⟩
end Go.Proofs.Ytlpncikiaojmiaa
