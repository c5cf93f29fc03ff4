
/- Plain facts of chapter 9: pairs of an index, their faults, their order. No Go in it. -/
import Derived.Test.YthfanfnbjldddaaEdK
import Derived.Test.YthfanfnbjldddaaUnM
import Derived.Test.YthfanfnbjldddaaMapM
namespace Go.Proofs.Ythfanfnbjldddaa.Ch

def ixAt (ps : List Hold) (k : Nat) : Int :=
  if !inB (ps.getD k Hold.zero).t 0 9999 || !inB (ps.getD k Hold.zero).m 0 99 then 3 else if decide (0 < k) && !ltE (ps.getD (k - 1) Hold.zero) (ps.getD k Hold.zero) then 1 else 0
def ixFrom (ps : List Hold) : Nat → Nat → Int
  | 0, _ => 0
  | f + 1, k => if ixAt ps k != 0 then ixAt ps k else ixFrom ps f (k + 1)
def ixRest (ps : List Hold) (k : Nat) : Int := ixFrom ps (ps.length - k) k
def keysOf (ps : List Hold) : List Int := ps.map (·.m)
def ixDup (ps : List Hold) : Bool := !decide (keysOf ps).Nodup
def ixFault (ps : List Hold) : Int := if 240 < ps.length then 2 else if ixRest ps 0 != 0 then ixRest ps 0 else if ixDup ps then 7 else 0
theorem ix_big {ps : List Hold} (h : 240 < ps.length) : ixFault ps = 2 := by rw [ixFault, if_pos h]
theorem ix_at {ps : List Hold} {k : Nat} (h : k < ps.length) (hf : (ixAt ps k != 0) = true) : ixRest ps k = ixAt ps k := by
  unfold ixRest
  rw [show ps.length - k = (ps.length - (k + 1)) + 1 by omega, ixFrom, if_pos hf]
theorem ix_on {ps : List Hold} {k : Nat} (h : k < ps.length) (hf : (ixAt ps k != 0) = false) : ixRest ps k = ixRest ps (k + 1) := by
  unfold ixRest
  rw [show ps.length - k = (ps.length - (k + 1)) + 1 by omega, ixFrom, if_neg (by rw [hf]; exact Bool.false_ne_true)]
theorem ix_end {ps : List Hold} {k : Nat} (h : ps.length ≤ k) : ixRest ps k = 0 := by
  unfold ixRest
  rw [show ps.length - k = 0 by omega, ixFrom]
theorem ix_code {ps : List Hold} {c : Int} (h : ps.length ≤ 240) (hr : ixRest ps 0 = c) (hc : (c != 0) = true) : ixFault ps = c := by
  rw [ixFault, if_neg (by omega), hr, if_pos hc]
theorem ix_last {ps : List Hold} (h : ps.length ≤ 240) (hr : ixRest ps 0 = 0) : ixFault ps = if ixDup ps then 7 else 0 := by
  rw [ixFault, if_neg (by omega), hr, if_neg (by decide)]
theorem ix_taken {ps : List Hold} (h : ps.length ≤ 240) (hr : ixRest ps 0 = 0) (hd : ixDup ps = true) : ixFault ps = 7 := by
  rw [ix_last h hr, hd]; rfl
theorem ix_fine {ps : List Hold} (h : ps.length ≤ 240) (hr : ixRest ps 0 = 0) (hd : ixDup ps = false) : ixFault ps = 0 := by
  rw [ix_last h hr, hd]; rfl
theorem ixAt_range {ps : List Hold} {k : Nat} (h : (!inB (ps.getD k Hold.zero).t 0 9999 || !inB (ps.getD k Hold.zero).m 0 99) = true) : ixAt ps k = 3 := by
  rw [ixAt, if_pos h]
theorem ixAt_form {ps : List Hold} {k : Nat} (h : (!inB (ps.getD k Hold.zero).t 0 9999 || !inB (ps.getD k Hold.zero).m 0 99) = false) (h0 : 0 < k) (hl : ltE (ps.getD (k - 1) Hold.zero) (ps.getD k Hold.zero) = false) : ixAt ps k = 1 := by
  rw [ixAt, if_neg (by rw [h]; exact Bool.false_ne_true), if_pos (by rw [hl]; simpa using h0)]
theorem ixAt_first {ps : List Hold} {k : Nat} (h : (!inB (ps.getD k Hold.zero).t 0 9999 || !inB (ps.getD k Hold.zero).m 0 99) = false) (h0 : k = 0) : ixAt ps k = 0 := by
  rw [ixAt, if_neg (by rw [h]; exact Bool.false_ne_true), if_neg (by subst h0; simp)]
theorem ixAt_fine {ps : List Hold} {k : Nat} (h : (!inB (ps.getD k Hold.zero).t 0 9999 || !inB (ps.getD k Hold.zero).m 0 99) = false) (hl : ltE (ps.getD (k - 1) Hold.zero) (ps.getD k Hold.zero) = true) : ixAt ps k = 0 := by
  rw [ixAt, if_neg (by rw [h]; exact Bool.false_ne_true), if_neg (by rw [hl]; simp)]
theorem ixAt_zero {ps : List Hold} {k : Nat} (h : ixAt ps k = 0) : inB (ps.getD k Hold.zero).t 0 9999 = true ∧ inB (ps.getD k Hold.zero).m 0 99 = true ∧ (0 < k → ltE (ps.getD (k - 1) Hold.zero) (ps.getD k Hold.zero) = true) := by
  unfold ixAt at h
  by_cases h1 : (!inB (ps.getD k Hold.zero).t 0 9999 || !inB (ps.getD k Hold.zero).m 0 99) = true
  · rw [if_pos h1] at h; cases h
  · rw [if_neg h1] at h
    by_cases h2 : (decide (0 < k) && !ltE (ps.getD (k - 1) Hold.zero) (ps.getD k Hold.zero)) = true
    · rw [if_pos h2] at h; cases h
    · simp only [Bool.or_eq_true, Bool.not_eq_true', not_or, Bool.not_eq_false] at h1
      refine ⟨h1.1, h1.2, fun hk => ?_⟩
      cases hl : ltE (ps.getD (k - 1) Hold.zero) (ps.getD k Hold.zero)
      · exact absurd (by rw [hl]; simpa using hk) h2
      · rfl
theorem ixRest_all {ps : List Hold} (h : ∀ k, k < ps.length → ixAt ps k = 0) : ∀ f k, k + f = ps.length → ixFrom ps f k = 0 := by
  intro f
  induction f with
  | zero => intro k _; rfl
  | succ f ih =>
    intro k hk
    rw [ixFrom, h k (by omega), if_neg (by decide)]
    exact ih (k + 1) (by omega)
theorem ixFrom_zero {ps : List Hold} : ∀ f k, k + f = ps.length → ixFrom ps f k = 0 → ∀ j, k ≤ j → j < ps.length → ixAt ps j = 0 := by
  intro f
  induction f with
  | zero => intro k hk _ j h1 h2; omega
  | succ f ih =>
    intro k hk h j h1 h2
    rw [ixFrom] at h
    by_cases hc : (ixAt ps k != 0) = true
    · rw [if_pos hc] at h; rw [h] at hc; cases hc
    · rw [if_neg hc] at h
      by_cases he : j = k
      · subst he; simpa using hc
      · exact ih (k + 1) (by omega) h j (by omega) h2
theorem adj_sort {ps : List Hold} (h : ∀ k, k + 1 < ps.length → ltE (ps.getD k Hold.zero) (ps.getD (k + 1) Hold.zero) = true) : SortE ps := by
  unfold SortE
  induction ps with
  | nil => exact List.Pairwise.nil
  | cons x l ih =>
    have hl : l.Pairwise fun a b => ltE a b = true := ih fun k hk => by
      have := h (k + 1) (by simpa using hk)
      simpa using this
    refine List.Pairwise.cons (fun y hy => ?_) hl
    cases l with
    | nil => cases hy
    | cons z l =>
      have h0 : ltE x z = true := by simpa using h 0 (by simp)
      rcases List.mem_cons.1 hy with rfl | hy
      · exact h0
      · exact ltE_trans h0 ((List.pairwise_cons.1 hl).1 y hy)
/-- A right index. -/
structure IxGood (ps : List Hold) : Prop where
  len : ps.length ≤ 240
  val : ∀ p ∈ ps, inB p.t 0 9999 = true
  key : ∀ p ∈ ps, inB p.m 0 99 = true
  sort : SortE ps
  nd : (keysOf ps).Nodup
theorem getD_mem' {ps : List Hold} {k : Nat} (h : k < ps.length) : ps.getD k Hold.zero ∈ ps := by simp [List.getD, h]
theorem mem_getD {ps : List Hold} {p : Hold} (h : p ∈ ps) : ∃ k, k < ps.length ∧ ps.getD k Hold.zero = p := by
  obtain ⟨k, hk, rfl⟩ := List.getElem_of_mem h
  exact ⟨k, hk, by simp [List.getD, hk]⟩
theorem ix_good {ps : List Hold} (h : ixFault ps = 0) : IxGood ps := by
  unfold ixFault at h
  by_cases h1 : 240 < ps.length
  · rw [if_pos h1] at h; cases h
  rw [if_neg h1] at h
  by_cases h2 : (ixRest ps 0 != 0) = true
  · rw [if_pos h2] at h; rw [h] at h2; cases h2
  rw [if_neg h2] at h
  by_cases h3 : ixDup ps = true
  · rw [if_pos h3] at h; cases h
  have hz : ∀ j, j < ps.length → ixAt ps j = 0 := fun j hj => ixFrom_zero (ps.length - 0) 0 (by omega) (by simpa [ixRest] using h2) j (Nat.zero_le _) hj
  refine ⟨by omega, fun p hp => ?_, fun p hp => ?_, adj_sort fun k hk => ?_, by simpa [ixDup] using h3⟩
  · obtain ⟨k, hk, rfl⟩ := mem_getD hp
    exact (ixAt_zero (hz k hk)).1
  · obtain ⟨k, hk, rfl⟩ := mem_getD hp
    exact (ixAt_zero (hz k hk)).2.1
  · have := (ixAt_zero (hz (k + 1) hk)).2.2 (by omega)
    simpa using this
theorem good_ix {ps : List Hold} (h : IxGood ps) : ixFault ps = 0 := by
  have hz : ∀ k, k < ps.length → ixAt ps k = 0 := fun k hk => by
    have hm := getD_mem' hk
    have hr : (!inB (ps.getD k Hold.zero).t 0 9999 || !inB (ps.getD k Hold.zero).m 0 99) = false := by rw [h.val _ hm, h.key _ hm]; rfl
    by_cases h0 : k = 0
    · exact ixAt_first hr h0
    · refine ixAt_fine hr ?_
      have := List.pairwise_iff_getElem.1 h.sort (k - 1) k (by omega) hk (by omega)
      simpa [List.getD, hk, show k - 1 < ps.length by omega] using this
  refine ix_fine h.len (ixRest_all hz _ 0 (by omega)) ?_
  simpa [ixDup] using h.nd
/-! two of one key -/
theorem keys_next {ps : List Hold} {i : Nat} (hi : i < ps.length) : keysOf (ps.take (i + 1)) = keysOf (ps.take i) ++ [(ps.getD i Hold.zero).m] := by
  unfold keysOf
  rw [take_snoc ps Hold.zero i hi]; simp
theorem mem_keys {ps : List Hold} {i : Nat} {x : Int} (hi : i ≤ ps.length) : x ∈ keysOf (ps.take i) ↔ ∃ j, j < i ∧ (ps.getD j Hold.zero).m = x := by
  unfold keysOf
  rw [List.mem_map]
  constructor
  · rintro ⟨p, hp, rfl⟩
    obtain ⟨j, hj, rfl⟩ := List.getElem_of_mem hp
    have hj' : j < i := by simp at hj; omega
    exact ⟨j, hj', by simp [List.getD, show j < ps.length by omega]⟩
  · rintro ⟨j, hj, rfl⟩
    refine ⟨ps.getD j Hold.zero, ?_, rfl⟩
    rw [List.mem_iff_getElem]
    exact ⟨j, by simp; omega, by simp [List.getD, show j < ps.length by omega]⟩
theorem nodup_next {ps : List Hold} {i : Nat} (hi : i < ps.length) (h : (keysOf (ps.take i)).Nodup) (hn : ∀ j, j < i → (ps.getD j Hold.zero).m ≠ (ps.getD i Hold.zero).m) : (keysOf (ps.take (i + 1))).Nodup := by
  rw [keys_next hi, List.nodup_append]
  refine ⟨h, by simp, fun a ha b hb => ?_⟩
  rw [List.mem_singleton] at hb
  obtain ⟨j, hj, rfl⟩ := (mem_keys (by omega)).1 ha
  rw [hb]
  exact hn j hj
theorem nodup_all {ps : List Hold} {i : Nat} (hi : ps.length ≤ i) (h : (keysOf (ps.take i)).Nodup) : ixDup ps = false := by
  rw [List.take_of_length_le hi] at h
  simpa [ixDup] using h
theorem dup_found {ps : List Hold} {k i : Nat} (hk : k < i) (hi : i < ps.length) (h : (ps.getD k Hold.zero).m = (ps.getD i Hold.zero).m) : ixDup ps = true := by
  unfold ixDup
  simp only [Bool.not_eq_true', decide_eq_false_iff_not]
  intro hn
  unfold keysOf at hn
  have := List.pairwise_iff_getElem.1 hn k i (by simp; omega) (by simpa using hi) hk
  simp [List.getD, hi, show k < ps.length by omega] at h
  simp at this
  exact this h
theorem dup_of {ps : List Hold} (h : ¬ (keysOf ps).Nodup) : ixDup ps = true := by simpa [ixDup] using h
theorem nodup_take {ps : List Hold} (h : (keysOf ps).Nodup) (k : Nat) : (keysOf (ps.take k)).Nodup := by
  unfold keysOf at *
  rw [List.map_take]
  exact h.sublist (List.take_sublist _ _)

/-! what is asked of a value -/
def lookL (ps : List Hold) (v : Int) : List Int := (ps.filter fun p => p.t == v).map (·.m)
def lookR (ps : List Hold) (v : Int) : Int × List Int := if ixFault ps != 0 then (ixFault ps, []) else if inB v 0 9999 then (0, lookL ps v) else (3, [])
theorem lookR_code {ps : List Hold} {v c : Int} (h : ixFault ps = c) (hc : (c != 0) = true) : lookR ps v = (c, []) := by rw [lookR, h, if_pos hc]
theorem lookR_range {ps : List Hold} {v : Int} (h : ixFault ps = 0) (hv : inB v 0 9999 = false) : lookR ps v = (3, []) := by
  rw [lookR, h, if_neg (by decide), hv]; rfl
theorem lookR_ok {ps : List Hold} {v : Int} (h : ixFault ps = 0) (hv : inB v 0 9999 = true) : lookR ps v = (0, lookL ps v) := by
  rw [lookR, h, if_neg (by decide), hv]; rfl
theorem lookL_yes {ps : List Hold} {v : Int} {k : Nat} (h : k < ps.length) (hc : ((ps.getD k Hold.zero).t == v) = true) : lookL (ps.take (k + 1)) v = lookL (ps.take k) v ++ [(ps.getD k Hold.zero).m] := by
  unfold lookL
  rw [take_snoc ps Hold.zero k h, List.filter_append, List.map_append]
  generalize ps.getD k Hold.zero = x at *
  rw [List.filter_cons_of_pos (p := fun p : Hold => p.t == v) hc]; rfl
theorem lookL_no {ps : List Hold} {v : Int} {k : Nat} (h : k < ps.length) (hc : ((ps.getD k Hold.zero).t == v) = false) : lookL (ps.take (k + 1)) v = lookL (ps.take k) v := by
  unfold lookL
  rw [take_snoc ps Hold.zero k h, List.filter_append, List.map_append]
  generalize ps.getD k Hold.zero = x at *
  rw [List.filter_cons_of_neg (p := fun p : Hold => p.t == v) (by rw [hc]; simp)]; simp
theorem lookL_len (ps : List Hold) (v : Int) : (lookL ps v).length ≤ ps.length := by unfold lookL; rw [List.length_map]; exact List.length_filter_le _ _

/-! a pair put into its place -/
def insP : List Hold → Hold → List Hold
  | [], e => [e]
  | x :: l, e => if ltE x e then x :: insP l e else e :: x :: l
theorem insP_at {l : List Hold} {e : Hold} {k : Nat} (hk : k ≤ l.length) (h1 : ∀ j, j < k → ltE (l.getD j Hold.zero) e = true) (h2 : k < l.length → ltE (l.getD k Hold.zero) e = false) :
    insP l e = l.take k ++ [e] ++ l.drop k := by
  induction l generalizing k with
  | nil =>
    have : k = 0 := by simpa using hk
    subst this
    simp [insP]
  | cons x l ih =>
    cases k with
    | zero =>
      have hx : ltE x e = false := by simpa using h2 (by simp)
      unfold insP
      rw [hx]
      simp
    | succ k =>
      have hx : ltE x e = true := by simpa using h1 0 (by omega)
      unfold insP
      rw [hx, if_pos rfl, ih (k := k) (by simpa using hk) (fun j hj => by simpa using h1 (j + 1) (by omega)) (fun hl => by simpa using h2 (by simpa using hl))]
      simp
theorem insP_insE {l : List Hold} {e : Hold} (h : e ∉ l) : insP l e = insE l e := by
  induction l with
  | nil => rfl
  | cons x l ih =>
    unfold insP insE
    have hx : sameE x e = false := by
      cases hs : sameE x e
      · rfl
      · exact absurd (by rw [sameE_iff.1 hs]; simp) h
    rw [ih (fun hm => h (List.mem_cons_of_mem _ hm)), hx]
    rfl
theorem insP_len (l : List Hold) (e : Hold) : (insP l e).length = l.length + 1 := by
  induction l with
  | nil => rfl
  | cons x l ih => unfold insP; split <;> simp [ih]

/-! the index of leaves -/
def pairR (r : Row) : Hold := ⟨r.v, r.k⟩
def ixOfL (ls : List (List Row)) : List Hold := sortE ((noGhost ls.flatten).map pairR)
def ixOfR (ls : List (List Row)) : Int × List Hold := if leavesFault ls != 0 then (leavesFault ls, []) else (0, ixOfL ls)
theorem ixOfR_code {ls : List (List Row)} {c : Int} (h : leavesFault ls = c) (hc : (c != 0) = true) : ixOfR ls = (c, []) := by rw [ixOfR, h, if_pos hc]
theorem ixOfR_ok {ls : List (List Row)} (h : leavesFault ls = 0) : ixOfR ls = (0, ixOfL ls) := by rw [ixOfR, h]; rfl
theorem rise_apart {rs : List Row} (h : rs.Pairwise (fun a b => a.k < b.k)) : (rs.map pairR).Nodup := by
  unfold List.Nodup
  rw [List.pairwise_map]
  exact h.imp fun {a b} hab he => by
    have : a.k = b.k := by have := congrArg Hold.m he; simpa [pairR] using this
    omega
theorem pairs_nodup {ls : List (List Row)} (h : leavesFault ls = 0) : ((noGhost ls.flatten).map pairR).Nodup := by
  obtain ⟨_, _, _, hp⟩ := (good_iff ls).1 h
  exact rise_apart (hp.filter _)
theorem nodup_new {l : List Hold} {d : Hold} (h : l.Nodup) {k : Nat} (hk : k < l.length) : l.getD k d ∉ l.take k := by
  intro hm
  obtain ⟨j, hj, he⟩ := List.getElem_of_mem hm
  have hj' : j < k := by simp at hj; omega
  have := List.pairwise_iff_getElem.1 h j k (by omega) hk hj'
  simp [List.getD, hk] at he
  exact this he
/-- What is sorted, each once, is what was put in one by one. -/
theorem perm_sort {xs ys : List Hold} (hn : xs.Nodup) (hp : ys.Perm xs) (hs : ys.Pairwise (fun a b => ltE b a = false)) : ys = sortE xs := by
  refine sort_same ?_ (sortE_sort xs) fun x => ?_
  · have nd : ys.Nodup := hp.nodup_iff.2 hn
    unfold SortE
    refine (hs.and nd).imp ?_
    rintro a b ⟨h1, h2⟩
    exact ltE_total h1 (fun e => h2 e.symm)
  · rw [sortE_mem, hp.mem_iff]
theorem sortE_next {l : List Hold} {k : Nat} (h : l.Nodup) (hk : k < l.length) : insP (sortE (l.take k)) (l.getD k Hold.zero) = sortE (l.take (k + 1)) := by
  rw [take_snoc l Hold.zero k hk, sortE_snoc, insP_insE]
  rw [sortE_mem]
  exact nodup_new h hk

/-! an index that is turned -/
def thereP (ps : List Hold) (key : Int) : Bool := ps.any fun p => p.m == key
def rightP (ps : List Hold) (key v : Int) : Bool := ps.any fun p => p.m == key && p.t == v
def turnL (ps : List Hold) (key : Int) (now : Bf) : List Hold := if now.h then insE (ps.filter fun p => p.m != key) ⟨now.v, key⟩ else ps.filter fun p => p.m != key
def turnF (ps : List Hold) (key : Int) (old now : Bf) : Int :=
  if ixFault ps != 0 then ixFault ps else if befFault [old, now] != 0 then befFault [old, now] else if old.k != key || now.k != key then 1 else
    if old.h && !rightP ps key old.v then 4 else if !old.h && thereP ps key then 7 else 0
def turnR (ps : List Hold) (key : Int) (old now : Bf) : Int × List Hold := if turnF ps key old now != 0 then (turnF ps key old now, []) else (0, turnL ps key now)
theorem turnR_code {ps : List Hold} {key c : Int} {old now : Bf} (h : turnF ps key old now = c) (hc : (c != 0) = true) : turnR ps key old now = (c, []) := by rw [turnR, h, if_pos hc]
theorem turnR_ok {ps : List Hold} {key : Int} {old now : Bf} (h : turnF ps key old now = 0) : turnR ps key old now = (0, turnL ps key now) := by rw [turnR, h]; rfl
end Go.Proofs.Ythfanfnbjldddaa.Ch
