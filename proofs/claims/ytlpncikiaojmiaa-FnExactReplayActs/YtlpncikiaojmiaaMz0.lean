/- Several texts in one: ModM, LkM, Hd, LkN, AppX, Hm, RvC, RdA, RdB, NwB, RdC, RdD, LvL, MarkL, CopyW, DelW, InsW, InsG, PlaceW, ForI. -/
import Derived.Test.YtlpncikiaojmiaaMath
import Derived.Test.YtlpncikiaojmiaaProg
import Derived.Test.YtlpncikiaojmiaaBase
import Derived.Test.YtlpncikiaojmiaaSmall
import Derived.Deep.QuietTactic
import Derived.Deep.RegionWith
import Derived.Deep.RegionLaw
import Derived.Lib.SliceRun
import Derived.Laws.IdiomCopy
import Derived.Maps.AppendAt
import Derived.Lib.AppendZeros
import Derived.Test.YtlpncikiaojmiaaWth
import Derived.Test.YtlpncikiaojmiaaRvA
import Derived.Lib.SmallJoins
import Derived.Test.YtlpncikiaojmiaaRdM
import Derived.Test.YtlpncikiaojmiaaNwM
import Derived.Laws.StructEq
import Derived.Test.YtlpncikiaojmiaaScanW
import Derived.Test.YtlpncikiaojmiaaLvF
import Derived.Lib.AppendZerosOnto
import Derived.Lib.Overlaps
import Derived.Laws.Externs
import Derived.Laws.NewBlocks
import Derived.Test.YtlpncikiaojmiaaAllI
import Derived.Test.YtlpncikiaojmiaaPlaceM
import Derived.Maps.OwnSet
import Derived.Maps.OwnOps
import Derived.Test.YtlpncikiaojmiaaForW


/- Plain modes of locks: no Go in it. -/
namespace Go.Proofs.Ytlpncikiaojmiaa.Ch
def isM (m : Int) : Bool := inB m 0 5
def fitT : List (List Bool) :=
  [[true, true, true, true, true, true], [true, true, true, true, true, false], [true, true, true, false, false, false],
   [true, true, false, true, false, false], [true, true, false, false, false, false], [true, false, false, false, false, false]]
def covT : List (List Bool) :=
  [[true, false, false, false, false, false], [true, true, false, false, false, false], [true, true, true, false, false, false],
   [true, true, false, true, false, false], [true, true, true, true, true, false], [true, true, true, true, true, true]]
def tab (t : List (List Bool)) (a b : Int) : Bool := (t.getD a.toNat []).getD b.toNat false
def fit (a b : Int) : Bool := tab fitT a b
def cov (a b : Int) : Bool := tab covT a b
def fits (a b : Int) : Bool := isM a && isM b && fit a b
def covers (a b : Int) : Bool := isM a && isM b && cov a b
def joinT : List (List Int) :=
  [[0, 1, 2, 3, 4, 5], [1, 1, 2, 3, 4, 5], [2, 2, 2, 4, 4, 5], [3, 3, 4, 3, 4, 5], [4, 4, 4, 4, 4, 5], [5, 5, 5, 5, 5, 5]]
def join (a b : Int) : Int := (joinT.getD a.toNat []).getD b.toNat 0
def textT : List (Array UInt8) := [#[110, 111, 110, 101], #[105, 115], #[105, 120], #[115], #[115, 105, 120], #[120]]
def text (m : Int) : Array UInt8 := textT.getD m.toNat #[]
theorem mode_cases {m : Int} (h : isM m = true) : m = 0 ∨ m = 1 ∨ m = 2 ∨ m = 3 ∨ m = 4 ∨ m = 5 := by
  simp [isM, inB] at h; omega
theorem mode_bd {m : Int} (h : isM m = true) : 0 ≤ m ∧ m ≤ 5 := by
  simp [isM, inB] at h; omega
end Go.Proofs.Ytlpncikiaojmiaa.Ch


/- Plain locks: no Go in it. -/
namespace Go.Proofs.Ytlpncikiaojmiaa.Ch
structure Hold where
  t : Int
  m : Int
def Hold.zero : Hold := ⟨0, 0⟩
structure Lock where
  r : Int
  hs : List Hold
  qs : List Hold
def Lock.zero : Lock := ⟨0, [], []⟩

theorem all_false {α : Type} {l : List α} {p : α → Bool} (d : α) {k : Nat} (hk : k < l.length) (h : p (l.getD k d) = false) : l.all p = false := by
  have hm : l.getD k d ∈ l := by simp [List.getD, hk]
  cases hh : l.all p
  · rfl
  · have := List.all_eq_true.1 hh _ hm
    rw [h] at this; cases this
theorem any_true {α : Type} {l : List α} {p : α → Bool} (d : α) {k : Nat} (hk : k < l.length) (h : p (l.getD k d) = true) : l.any p = true := by
  have hm : l.getD k d ∈ l := by simp [List.getD, hk]
  exact List.any_eq_true.2 ⟨_, hm, h⟩
theorem all_snoc {α : Type} {l : List α} {p : α → Bool} (d : α) {k : Nat} (hk : k < l.length) (h : (l.take k).all p = true) (h2 : p (l.getD k d) = true) : (l.take (k + 1)).all p = true := by
  rw [take_snoc l d k hk, List.all_append, h]; simp only [List.all_cons, List.all_nil, h2]; rfl
theorem any_snoc {α : Type} {l : List α} {p : α → Bool} (d : α) {k : Nat} (hk : k < l.length) (h : (l.take k).any p = false) (h2 : p (l.getD k d) = false) : (l.take (k + 1)).any p = false := by
  rw [take_snoc l d k hk, List.any_append, h]; simp only [List.any_cons, List.any_nil, h2]; rfl
theorem all_at {α : Type} {l : List α} {p : α → Bool} (d : α) (h : l.all p = true) {k : Nat} (hk : k < l.length) : p (l.getD k d) = true := by
  have hm : l.getD k d ∈ l := by simp [List.getD, hk]
  exact List.all_eq_true.1 h _ hm

/-- Is a transaction among them? -/
def hasH (l : List Hold) (t : Int) : Bool := l.any fun h => h.t == t
/-- Its place; -1: it has none. -/
def atH (l : List Hold) (t : Int) : Int := match l.findIdx? (fun h => h.t == t) with
  | some i => i
  | none => -1
/-- Its mode; 0: it has none. -/
def modeH (l : List Hold) (t : Int) : Int := if hasH l t then (l.getD (atH l t).toNat Hold.zero).m else 0
theorem hasH_nil (t : Int) : hasH [] t = false := rfl
theorem hasH_take {l : List Hold} {t : Int} {k : Nat} (h : hasH l t = false) : hasH (l.take k) t = false := by
  unfold hasH at *
  rw [List.any_eq_false] at *
  intro x hx
  exact h x (List.mem_of_mem_take hx)
theorem atH_none {l : List Hold} {t : Int} (h : hasH l t = false) : atH l t = -1 := by
  unfold atH
  have : l.findIdx? (fun h => h.t == t) = none := by
    rw [List.findIdx?_eq_none_iff]
    unfold hasH at h
    rw [List.any_eq_false] at h
    intro x hx
    simpa using h x hx
  rw [this]
theorem atH_some {l : List Hold} {t : Int} {k : Nat} (hk : k < l.length) (h : hasH (l.take k) t = false) (he : (l.getD k Hold.zero).t = t) : atH l t = k ∧ hasH l t = true := by
  have h2 : hasH l t = true := any_true Hold.zero hk (by simp only [he]; simp)
  refine ⟨?_, h2⟩
  unfold atH
  have e1 : l[k] = l.getD k Hold.zero := by simp [List.getD, hk]
  have : l.findIdx? (fun h => h.t == t) = some k := by
    rw [List.findIdx?_eq_some_iff_getElem]
    refine ⟨hk, by rw [e1, he]; simp, fun j hj => ?_⟩
    unfold hasH at h
    rw [List.any_eq_false] at h
    have hm : l[j] ∈ l.take k := by
      rw [List.mem_take_iff_getElem]
      exact ⟨j, by omega, rfl⟩
    simpa using h _ hm
  rw [this]
theorem atH_cases (l : List Hold) (t : Int) : (hasH l t = false ∧ atH l t = -1 ∧ modeH l t = 0) ∨ ∃ k, k < l.length ∧ atH l t = (k : Int) ∧ hasH l t = true ∧ (l.getD k Hold.zero).t = t ∧ modeH l t = (l.getD k Hold.zero).m := by
  cases h : hasH l t
  · exact .inl ⟨rfl, atH_none h, by unfold modeH; rw [h]; rfl⟩
  · right
    cases hf : l.findIdx? (fun h => h.t == t) with
    | none =>
      exfalso
      rw [List.findIdx?_eq_none_iff] at hf
      unfold hasH at h
      rw [List.any_eq_true] at h
      obtain ⟨x, hx, hxt⟩ := h
      have := hf x hx
      simp_all
    | some k =>
      have ha : atH l t = (k : Int) := by unfold atH; rw [hf]
      rw [List.findIdx?_eq_some_iff_getElem] at hf
      obtain ⟨hk, he, _⟩ := hf
      refine ⟨k, hk, ha, rfl, by simpa [List.getD, hk] using he, ?_⟩
      unfold modeH
      rw [h, ha]
      simp

/-- Do all others fit with a mode of a transaction? -/
def fitsH (l : List Hold) (t m : Int) : Bool := l.all fun h => h.t == t || fits h.m m
def nameH (h : Hold) : Bool := inB h.t 1 999 && inB h.m 1 5
def namesH (l : List Hold) : Bool := l.all nameH
def nameC (l : List Hold) : Int := if namesH l then 0 else 3
theorem nameC_ok {l : List Hold} (h : namesH l = true) : nameC l = 0 := by unfold nameC; rw [h]; rfl
theorem nameC_bad {l : List Hold} (h : namesH l = false) : nameC l = 3 := by unfold nameC; rw [h]; rfl
def allFit' (l : List Hold) : Bool := l.all fun h => fitsH l h.t h.m
theorem name_mode {h : Hold} (hn : nameH h = true) : isM h.m = true ∧ 1 ≤ h.m ∧ h.m ≤ 5 ∧ 1 ≤ h.t ∧ h.t ≤ 999 := by
  unfold nameH inB at hn
  unfold isM inB
  simp at hn ⊢
  omega
theorem names_at {l : List Hold} (h : namesH l = true) {k : Nat} (hk : k < l.length) : nameH (l.getD k Hold.zero) = true := all_at Hold.zero h hk
theorem modeH_names {l : List Hold} (h : namesH l = true) (t : Int) : isM (modeH l t) = true ∧ (modeH l t != 0) = hasH l t := by
  rcases atH_cases l t with ⟨h1, h2, h3⟩ | ⟨k, hk, h1, h2, h3, h4⟩
  · rw [h1, h3]; exact ⟨rfl, rfl⟩
  · have := name_mode (names_at h hk)
    rw [h4, h2]
    refine ⟨this.1, ?_⟩
    have hne : (l.getD k Hold.zero).m ≠ 0 := by omega
    simpa using hne

/-- Some transaction stands twice in the first k. -/
def twiceAt (l : List Hold) : Nat → Bool
  | 0 => false
  | k + 1 => twiceAt l k || hasH (l.take k) (l.getD k Hold.zero).t
def twice (l : List Hold) : Bool := twiceAt l l.length
theorem twiceAt_mono {l : List Hold} {k j : Nat} (h : twiceAt l k = true) (hj : k ≤ j) : twiceAt l j = true := by
  induction j with
  | zero => obtain rfl : k = 0 := by omega
            exact h
  | succ j ih =>
    by_cases hk : k = j + 1
    · subst hk; exact h
    · unfold twiceAt; rw [ih (by omega)]; rfl
theorem twice_hit {l : List Hold} {k : Nat} (hk : k < l.length) (h : hasH (l.take k) (l.getD k Hold.zero).t = true) : twice l = true := by
  refine twiceAt_mono (k := k + 1) ?_ hk
  unfold twiceAt; rw [h]; simp
theorem twiceAt_next {l : List Hold} {k : Nat} (h1 : twiceAt l k = false) (h : hasH (l.take k) (l.getD k Hold.zero).t = false) : twiceAt l (k + 1) = false := by
  unfold twiceAt; rw [h, h1]; rfl
/-- How many transactions there are in the first k. -/
def cntAt (l : List Hold) : Nat → Nat
  | 0 => 0
  | k + 1 => if hasH (l.take k) (l.getD k Hold.zero).t then cntAt l k else cntAt l k + 1
theorem cnt_twice (l : List Hold) (k : Nat) : cntAt l k ≤ k ∧ decide (cntAt l k < k) = twiceAt l k := by
  induction k with
  | zero => exact ⟨Nat.le_refl _, rfl⟩
  | succ k ih =>
    obtain ⟨h1, h2⟩ := ih
    unfold cntAt twiceAt
    rw [← h2]
    cases hasH (l.take k) (l.getD k Hold.zero).t
    · refine ⟨by simp; omega, ?_⟩
      simp
    · refine ⟨by simp; omega, ?_⟩
      simp; omega
theorem twiceAt_pair (l : List Hold) (k : Nat) (hk : k ≤ l.length) : twiceAt l k = false ↔ (l.take k).Pairwise fun a b => a.t ≠ b.t := by
  induction k with
  | zero => simp [twiceAt]
  | succ k ih =>
    rw [take_snoc l Hold.zero k (by omega), List.pairwise_append]
    unfold twiceAt
    rw [Bool.or_eq_false_iff, ih (by omega)]
    unfold hasH
    rw [List.any_eq_false]
    simp
theorem twice_pair (l : List Hold) : twice l = false ↔ l.Pairwise fun a b => a.t ≠ b.t := by
  have := twiceAt_pair l l.length (Nat.le_refl _)
  rwa [List.take_length] at this

/-- How many at the head of the queue convert. -/
def convH (hs : List Hold) : List Hold → Nat
  | [] => 0
  | q :: qs => if hasH hs q.t then convH hs qs + 1 else 0
theorem conv_le (hs qs : List Hold) : convH hs qs ≤ qs.length := by
  induction qs with
  | nil => exact Nat.le_refl _
  | cons q qs ih => unfold convH; split <;> simp <;> omega
theorem conv_lt (hs qs : List Hold) {k : Nat} (hk : k < convH hs qs) : hasH hs (qs.getD k Hold.zero).t = true := by
  induction qs generalizing k with
  | nil => simp [convH] at hk
  | cons q qs ih =>
    unfold convH at hk
    split at hk
    · cases k with
      | zero => simpa using ‹_›
      | succ k => simpa using ih (by omega)
    · omega
theorem conv_at (hs qs : List Hold) (hk : convH hs qs < qs.length) : hasH hs (qs.getD (convH hs qs) Hold.zero).t = false := by
  induction qs with
  | nil => simp at hk
  | cons q qs ih =>
    unfold convH at hk ⊢
    split
    · next h =>
      rw [if_pos h] at hk
      simpa using ih (by simpa using hk)
    · next h => simpa using h
theorem conv_is {hs qs : List Hold} {k : Nat} (hk : k ≤ qs.length) (h1 : ∀ j, j < k → hasH hs (qs.getD j Hold.zero).t = true) (h2 : k < qs.length → hasH hs (qs.getD k Hold.zero).t = false) : convH hs qs = k := by
  rcases Nat.lt_trichotomy (convH hs qs) k with h | h | h
  · have := h1 _ h
    rw [conv_at hs qs (by omega)] at this; cases this
  · exact h
  · have := conv_lt hs qs h
    have hl := conv_le hs qs
    rw [h2 (by omega)] at this; cases this

/-- Stands the i-th of the queue right? -/
def qStep (hs qs : List Hold) (i : Nat) : Bool :=
  if hasH hs (qs.getD i Hold.zero).t then decide (i < convH hs qs) && ((qs.getD i Hold.zero).m != modeH hs (qs.getD i Hold.zero).t && covers (qs.getD i Hold.zero).m (modeH hs (qs.getD i Hold.zero).t)) else true
def qOk (hs qs : List Hold) : Bool := (List.range qs.length).all (qStep hs qs)
theorem range_all {n : Nat} {p : Nat → Bool} : (List.range n).all p = true ↔ ∀ i, i < n → p i = true := by
  rw [List.all_eq_true]; simp
theorem qOk_false {hs qs : List Hold} {i : Nat} (hi : i < qs.length) (h : qStep hs qs i = false) : qOk hs qs = false := by
  cases hh : qOk hs qs
  · rfl
  · unfold qOk at hh
    rw [range_all] at hh
    have := hh i hi
    rw [h] at this; cases this
theorem qOk_true {hs qs : List Hold} (h : ∀ i, i < qs.length → qStep hs qs i = true) : qOk hs qs = true := range_all.2 h

theorem conv_no {hs qs : List Hold} {k : Nat} (h : hasH hs (qs.getD k Hold.zero).t = false) : convH hs qs ≤ k := by
  rcases Nat.lt_or_ge k (convH hs qs) with h1 | h1
  · rw [conv_lt hs qs h1] at h; cases h
  · exact h1
theorem conv_yes {hs qs : List Hold} {k : Nat} (hk : k < qs.length) (h : hasH hs (qs.getD k Hold.zero).t = true) (hc : k ≤ convH hs qs) : k < convH hs qs := by
  rcases Nat.lt_or_ge k (convH hs qs) with h1 | h1
  · exact h1
  · obtain rfl : k = convH hs qs := by omega
    rw [conv_at hs qs hk] at h; cases h
theorem qStep_no {hs qs : List Hold} {k : Nat} (h : hasH hs (qs.getD k Hold.zero).t = false) : qStep hs qs k = true := by
  unfold qStep; rw [h]; rfl
theorem qStep_late {hs qs : List Hold} {k : Nat} (h : hasH hs (qs.getD k Hold.zero).t = true) (hc : convH hs qs ≤ k) : qStep hs qs k = false := by
  unfold qStep; rw [h]; simp; intro h2; omega
theorem qStep_same {hs qs : List Hold} {k : Nat} (h : hasH hs (qs.getD k Hold.zero).t = true) (he : (qs.getD k Hold.zero).m = modeH hs (qs.getD k Hold.zero).t) : qStep hs qs k = false := by
  unfold qStep; rw [h, ← he]; simp
theorem qStep_cov {hs qs : List Hold} {k : Nat} (h : hasH hs (qs.getD k Hold.zero).t = true) (he : covers (qs.getD k Hold.zero).m (modeH hs (qs.getD k Hold.zero).t) = false) : qStep hs qs k = false := by
  unfold qStep; rw [h, he]; simp
theorem qStep_ok {hs qs : List Hold} {k : Nat} (hc : k < convH hs qs) (h1 : (qs.getD k Hold.zero).m ≠ modeH hs (qs.getD k Hold.zero).t) (he : covers (qs.getD k Hold.zero).m (modeH hs (qs.getD k Hold.zero).t) = true) : qStep hs qs k = true := by
  unfold qStep; rw [conv_lt hs qs hc, he]
  have h2 : ((qs.getD k Hold.zero).m != modeH hs (qs.getD k Hold.zero).t) = true := by simpa using h1
  rw [h2]; simp [hc]
theorem step_all {p : Nat → Bool} {k : Nat} (h : ∀ j, j < k → p j = true) (hk : p k = true) : ∀ j, j < k + 1 → p j = true := by
  intro j hj
  by_cases e : j = k
  · subst e; exact hk
  · exact h j (by omega)
theorem step_none {p : Nat → Bool} {k : Nat} (h : ∀ j, j < k → p j = false) (hk : p k = false) : ∀ j, j < k + 1 → p j = false := by
  intro j hj
  by_cases e : j = k
  · subst e; exact hk
  · exact h j (by omega)

def headFits (hs qs : List Hold) : Bool := match qs with
  | [] => false
  | q :: _ => (hasH hs q.t || decide (hs.length < 20)) && fitsH hs q.t q.m
theorem headFits_pos {hs qs : List Hold} (h : 0 < qs.length) : headFits hs qs = ((hasH hs (qs.getD 0 Hold.zero).t || decide (hs.length < 20)) && fitsH hs (qs.getD 0 Hold.zero).t (qs.getD 0 Hold.zero).m) := by
  cases qs with
  | nil => simp at h
  | cons q qs => rfl

/-- The code of a lock that doesn't hang on its resource. -/
def lockFault (l : Lock) : Int :=
  if 20 < l.hs.length ∨ 20 < l.qs.length then 2 else
  if !(namesH l.hs && namesH l.qs) then 3 else
  if twice l.hs || twice l.qs then 7 else
  if (l.hs.length + l.qs.length == 0) || !allFit' l.hs || !qOk l.hs l.qs || headFits l.hs l.qs then 1 else 0
def lkAt (ls : List Lock) (k : Nat) : Lock := ls.getD k Lock.zero
def lkOne (ls : List Lock) (k : Nat) : Int :=
  if !inB (lkAt ls k).r 0 100 then 3 else
  if 0 < k ∧ (lkAt ls k).r ≤ (lkAt ls (k - 1)).r then 1 else lockFault (lkAt ls k)
def waiters (ls : List Lock) : List Hold := ls.flatMap (·.qs)
def lksGo (ls : List Lock) : Nat → Nat → Int
  | 0, _ => if twice (waiters ls) then 10 else 0
  | f + 1, k => if lkOne ls k != 0 then lkOne ls k else lksGo ls f (k + 1)
def locksFault (ls : List Lock) : Int := lksGo ls ls.length 0
theorem lksGo_end {ls : List Lock} {n k : Nat} (h : k = n) : lksGo ls (n - k) k = if twice (waiters ls) then 10 else 0 := by
  subst h; rw [Nat.sub_self]; rfl
theorem lksGo_bad {ls : List Lock} {n k : Nat} (h : k < n) (hb : (lkOne ls k != 0) = true) : lksGo ls (n - k) k = lkOne ls k := by
  obtain ⟨f, hf⟩ : ∃ f, n - k = f + 1 := ⟨n - k - 1, by omega⟩
  rw [hf, lksGo, if_pos hb]
theorem lksGo_next {ls : List Lock} {n k : Nat} (h : k < n) (hb : (lkOne ls k != 0) = false) : lksGo ls (n - k) k = lksGo ls (n - (k + 1)) (k + 1) := by
  obtain ⟨f, hf⟩ : ∃ f, n - k = f + 1 := ⟨n - k - 1, by omega⟩
  rw [hf, lksGo, if_neg (by simp [hb]), show n - (k + 1) = f by omega]
theorem lkOne_res {ls : List Lock} {k : Nat} (h : inB (lkAt ls k).r 0 100 = false) : lkOne ls k = 3 := by
  unfold lkOne; rw [h]; rfl
theorem lkOne_low {ls : List Lock} {k : Nat} (h : inB (lkAt ls k).r 0 100 = true) (h0 : 0 < k) (h1 : (lkAt ls k).r ≤ (lkAt ls (k - 1)).r) : lkOne ls k = 1 := by
  unfold lkOne; rw [h, if_neg (by simp), if_pos ⟨h0, h1⟩]
theorem lkOne_own {ls : List Lock} {k : Nat} (h : inB (lkAt ls k).r 0 100 = true) (h1 : ¬ (0 < k ∧ (lkAt ls k).r ≤ (lkAt ls (k - 1)).r)) : lkOne ls k = lockFault (lkAt ls k) := by
  unfold lkOne; rw [h, if_neg (by simp), if_neg h1]

theorem lock_many {l : Lock} (h : 20 < l.hs.length ∨ 20 < l.qs.length) : lockFault l = 2 := by
  unfold lockFault; rw [if_pos h]
theorem lock_name {l : Lock} (h : ¬ (20 < l.hs.length ∨ 20 < l.qs.length)) (h2 : (namesH l.hs && namesH l.qs) = false) : lockFault l = 3 := by
  unfold lockFault; rw [if_neg h, h2]; rfl
theorem lock_twice {l : Lock} (h : ¬ (20 < l.hs.length ∨ 20 < l.qs.length)) (h2 : (namesH l.hs && namesH l.qs) = true) (h3 : (twice l.hs || twice l.qs) = true) : lockFault l = 7 := by
  unfold lockFault; rw [if_neg h, h2, if_neg (by simp), if_pos h3]
theorem lock_form {l : Lock} (h : ¬ (20 < l.hs.length ∨ 20 < l.qs.length)) (h2 : (namesH l.hs && namesH l.qs) = true) (h3 : (twice l.hs || twice l.qs) = false)
    (h4 : ((l.hs.length + l.qs.length == 0) || !allFit' l.hs || !qOk l.hs l.qs || headFits l.hs l.qs) = true) : lockFault l = 1 := by
  unfold lockFault; rw [if_neg h, h2, if_neg (by simp), h3, if_neg (by simp), if_pos h4]
theorem lock_ok {l : Lock} (h : ¬ (20 < l.hs.length ∨ 20 < l.qs.length)) (h2 : (namesH l.hs && namesH l.qs) = true) (h3 : (twice l.hs || twice l.qs) = false)
    (h4 : ((l.hs.length + l.qs.length == 0) || !allFit' l.hs || !qOk l.hs l.qs || headFits l.hs l.qs) = false) : lockFault l = 0 := by
  unfold lockFault; rw [if_neg h, h2, if_neg (by simp), h3, if_neg (by simp), h4, if_neg (by simp)]
/-- A lock without a fault. -/
theorem lock_good {l : Lock} (h : lockFault l = 0) : l.hs.length ≤ 20 ∧ l.qs.length ≤ 20 ∧ namesH l.hs = true ∧ namesH l.qs = true ∧ twice l.hs = false ∧ twice l.qs = false ∧ 0 < l.hs.length + l.qs.length ∧ allFit' l.hs = true ∧ qOk l.hs l.qs = true ∧ headFits l.hs l.qs = false := by
  by_cases h1 : 20 < l.hs.length ∨ 20 < l.qs.length
  · rw [lock_many h1] at h; cases h
  cases h2 : (namesH l.hs && namesH l.qs)
  · rw [lock_name h1 h2] at h; cases h
  cases h3 : (twice l.hs || twice l.qs)
  · cases h4 : ((l.hs.length + l.qs.length == 0) || !allFit' l.hs || !qOk l.hs l.qs || headFits l.hs l.qs)
    · simp at h1 h2 h3 h4
      obtain ⟨⟨⟨h5, h6⟩, h7⟩, h8⟩ := h4
      refine ⟨by omega, by omega, h2.1, h2.2, h3.1, h3.2, ?_, h6, h7, h8⟩
      rcases Nat.eq_zero_or_pos l.hs.length with h0 | h0
      · have := h5 (List.length_eq_zero_iff.1 h0)
        have : l.qs.length ≠ 0 := fun e => this (List.length_eq_zero_iff.1 e)
        omega
      · omega
    · rw [lock_form h1 h2 h3 h4] at h; cases h
  · rw [lock_twice h1 h2 h3] at h; cases h
/-- Locks without a fault. -/
theorem lksGo_good {ls : List Lock} (n k : Nat) (h : lksGo ls n k = 0) : (∀ i, k ≤ i → i < k + n → lkOne ls i = 0) ∧ twice (waiters ls) = false := by
  induction n generalizing k with
  | zero =>
    refine ⟨fun i h1 h2 => by omega, ?_⟩
    unfold lksGo at h
    cases ht : twice (waiters ls)
    · rfl
    · rw [ht] at h; cases h
  | succ n ih =>
    unfold lksGo at h
    split at h
    · next hb => simp [h] at hb
    · next hb =>
      obtain ⟨h1, h2⟩ := ih _ h
      refine ⟨fun i hi hj => ?_, h2⟩
      by_cases hik : i = k
      · subst hik; simpa using hb
      · exact h1 i (by omega) (by omega)
theorem locks_good {ls : List Lock} (h : locksFault ls = 0) : (∀ i, i < ls.length → lkOne ls i = 0) ∧ twice (waiters ls) = false := by
  obtain ⟨h1, h2⟩ := lksGo_good _ _ h
  exact ⟨fun i hi => h1 i (Nat.zero_le _) (by omega), h2⟩
theorem one_good {ls : List Lock} {k : Nat} (h : lkOne ls k = 0) : 0 ≤ (lkAt ls k).r ∧ (lkAt ls k).r ≤ 100 ∧ (0 < k → (lkAt ls (k - 1)).r < (lkAt ls k).r) ∧ lockFault (lkAt ls k) = 0 := by
  cases h1 : inB (lkAt ls k).r 0 100
  · rw [lkOne_res h1] at h; cases h
  by_cases h2 : 0 < k ∧ (lkAt ls k).r ≤ (lkAt ls (k - 1)).r
  · rw [lkOne_low h1 h2.1 h2.2] at h; cases h
  · rw [lkOne_own h1 h2] at h
    unfold inB at h1
    simp at h1
    refine ⟨h1.1, h1.2, fun h0 => ?_, h⟩
    rcases Int.lt_or_le (lkAt ls (k - 1)).r (lkAt ls k).r with h3 | h3
    · exact h3
    · exact absurd ⟨h0, h3⟩ h2

/-- Does one of the first i queues have a transaction of the i-th? -/
def crossRow (ls : List Lock) (i : Nat) : Bool := (lkAt ls i).qs.any fun q => (List.range i).any fun j => hasH (lkAt ls j).qs q.t
theorem cross_twice {ls : List Lock} (h : ∀ i, i < ls.length → twice (lkAt ls i).qs = false) : twice (waiters ls) = (List.range ls.length).any (crossRow ls) := by
  have key : twice (waiters ls) = false ↔ (List.range ls.length).any (crossRow ls) = false := by
    rw [twice_pair]
    unfold waiters
    rw [List.pairwise_flatMap]
    have hA : (∀ a ∈ ls, a.qs.Pairwise fun a b => a.t ≠ b.t) := by
      intro a ha
      obtain ⟨i, hi, rfl⟩ := List.getElem_of_mem ha
      have := h i hi
      rw [twice_pair] at this
      simpa [lkAt, List.getD, hi] using this
    rw [List.any_eq_false, List.pairwise_iff_getElem]
    constructor
    · rintro ⟨_, hp⟩ i hi
      simp only [List.mem_range] at hi
      unfold crossRow hasH
      simp only [List.any_eq_true, not_exists, not_and, List.mem_range]
      intro q hq j hj x hx hxq
      have := hp j i (by omega) hi hj x (by simpa [lkAt, List.getD, show j < ls.length by omega] using hx) q (by simpa [lkAt, List.getD, hi] using hq)
      simp at hxq
      exact this hxq
    · intro hc
      refine ⟨hA, fun i j hi hj hij x hx y hy he => ?_⟩
      have := hc j (by simpa using hj)
      apply this
      unfold crossRow hasH
      simp only [List.any_eq_true, List.mem_range]
      exact ⟨y, by simpa [lkAt, List.getD, hj] using hy, i, hij, x, by simpa [lkAt, List.getD, hi] using hx, by simpa using he⟩
  cases h1 : twice (waiters ls) <;> cases h2 : (List.range ls.length).any (crossRow ls) <;> simp_all
end Go.Proofs.Ytlpncikiaojmiaa.Ch


/- Lists of two numbers in memory (holds, edges, pairs). -/
namespace Go.Proofs.Ytlpncikiaojmiaa
open Go.RowKit

/-- Holds as values: two cells each. -/
def hcells (hs : List Ch.Hold) : List Value := hs.flatMap fun h => [.int .i64 h.t, .int .i64 h.m]
theorem hcells_len (hs : List Ch.Hold) : (hcells hs).length = hs.length * 2 := by
  induction hs with
  | nil => rfl
  | cons r rs ih => simp only [hcells, List.flatMap_cons, List.length_append, List.length_cons, List.length_nil] at *; omega
theorem hcells_append (a b : List Ch.Hold) : hcells (a ++ b) = hcells a ++ hcells b := by simp [hcells]
theorem hcells_at (hs : List Ch.Hold) (k : Nat) (h : k < hs.length) : (hcells hs)[k * 2]? = some (.int .i64 (hs.getD k Ch.Hold.zero).t) ∧ (hcells hs)[k * 2 + 1]? = some (.int .i64 (hs.getD k Ch.Hold.zero).m) := by
  induction hs generalizing k with
  | nil => simp at h
  | cons r rs ih =>
    cases k with
    | zero => simp [hcells]
    | succ k =>
      have := ih k (by simpa using h)
      simp only [hcells, List.flatMap_cons] at *
      rw [show (k + 1) * 2 = k * 2 + 1 + 1 by omega]
      simpa using this
theorem hcells_one (hs : List Ch.Hold) : ∀ x ∈ hcells hs, x.cells = #[x] := by
  intro x hx
  simp only [hcells, List.mem_flatMap] at hx
  obtain ⟨r, _, hx⟩ := hx
  simp at hx
  rcases hx with rfl | rfl <;> rfl
theorem hcells_set (hs : List Ch.Hold) (k : Nat) (r : Ch.Hold) (h : k < hs.length) :
    ((hcells hs).set (k * 2) (.int .i64 r.t)).set (k * 2 + 1) (.int .i64 r.m) = hcells (hs.set k r) := by
  induction hs generalizing k with
  | nil => simp at h
  | cons q rs ih =>
    cases k with
    | zero => simp [hcells]
    | succ k =>
      have := ih k (by simpa using h)
      simp only [hcells, List.flatMap_cons, List.set_cons_succ] at *
      rw [← this, show (k + 1) * 2 = k * 2 + 1 + 1 by omega]
      simp

theorem CellsAt.hlen {w : World} {a : Option Addr} {n : Nat} {hs : List Ch.Hold} (h : CellsAt w a (n * 2) (hcells hs)) : Hid (n = hs.length) := by
  have := h.1
  rw [hcells_len] at this
  exact (by omega : n = hs.length)
theorem CellsAt.hold {w : World} {a : Option Addr} {n : Nat} {hs : List Ch.Hold} (h : CellsAt w a (n * 2) (hcells hs)) {k : Nat} (hk : k < n) :
    ∃ b off, a = some ⟨b, off, none⟩ ∧ w.cell? ⟨b, off + k * 2, none⟩ = some (.int .i64 (hs.getD k Ch.Hold.zero).t) ∧ w.cell? ⟨b, off + k * 2 + 1, none⟩ = some (.int .i64 (hs.getD k Ch.Hold.zero).m) := by
  obtain ⟨b, off, ha, hc⟩ := h.2 (by omega)
  have hl := h.hlen.out
  obtain ⟨h0, h1⟩ := hcells_at hs k (by omega)
  exact ⟨b, off, ha, (hc _ (by omega)).trans h0, by rw [Nat.add_assoc]; exact (hc _ (by omega)).trans h1⟩

theorem hcells_one' (hs : List Ch.Hold) : ∀ u ∈ hcells hs, u.oneCell' = true := by
  intro x hx
  simp only [hcells, List.mem_flatMap] at hx
  obtain ⟨r, _, hx⟩ := hx
  simp at hx
  rcases hx with rfl | rfl <;> rfl
theorem made_cells (z : Value) (n size : Nat) (hz : z.cells.size = size) (hs : 0 < size) (f : Nat → List Value) (hf : ∀ i, f i = z.cells.toList) : (madeCells z.cells (n * size)).toList = (List.range n).flatMap f := by
  have key : ∀ (l : List Nat) (j : Nat), j < l.length * size → (l.flatMap f)[j]? = z.cells[j % size]? := by
    intro l
    induction l with
    | nil => intro j hj; simp at hj
    | cons a l ih =>
      intro j hj
      rw [List.flatMap_cons]
      by_cases hjs : j < size
      · rw [List.getElem?_append_left (by rw [hf]; simpa [hz] using hjs), hf, Nat.mod_eq_of_lt hjs]; simp
      · rw [List.getElem?_append_right (by rw [hf]; simp [hz]; omega), hf]
        have hj2 : j - size < l.length * size := by
          simp only [List.length_cons, Nat.add_mul, Nat.one_mul] at hj; omega
        have := ih (j - size) hj2
        simp only [Array.length_toList, hz]
        rw [this]
        congr 1
        conv => rhs; rw [show j = j - size + size by omega]
        rw [Nat.add_mod_right]
  apply List.ext_getElem?
  intro j
  by_cases hj : j < n * size
  · rw [key (List.range n) j (by simpa using hj)]
    simp [madeCells, hj]
    rw [Array.getElem?_eq_getElem (by rw [hz]; exact Nat.mod_lt _ hs)]
    simp [hz]
    exact getElem!_pos z.cells (j % size) (by rw [hz]; exact Nat.mod_lt _ hs)
  · rw [List.getElem?_eq_none (by simp [madeCells]; omega), List.getElem?_eq_none (by
      have : ((List.range n).flatMap f).length = n * size := by
        have e : ∀ l : List Nat, (l.flatMap f).length = l.length * size := by
          intro l
          induction l with
          | nil => simp
          | cons a l ih => rw [List.flatMap_cons, List.length_append, ih, hf]; simp [hz, Nat.add_mul]; omega
        rw [e]; simp
      omega)]

theorem Ch.set_midH {α : Type} (l : List α) (zs : List α) (k : Nat) (v : α) (hl : l.length = k) (h : k < zs.length) : (l ++ zs.drop k).set k v = (l ++ [v]) ++ zs.drop (k + 1) := by
  rw [List.set_append_right _ _ (by omega), hl, Nat.sub_self, List.drop_eq_getElem_cons h, List.set_cons_zero]
  simp

theorem made_holds (n : Nat) : (madeCells (Value.agg #[.int .i64 0, .int .i64 0]).cells (n * 2)).toList = hcells (List.replicate n Ch.Hold.zero) := by
  rw [made_cells _ n 2 rfl (by decide) (fun _ => [.int .i64 0, .int .i64 0]) (fun _ => rfl)]
  induction n with
  | zero => rfl
  | succ n ih => rw [List.range_succ, List.flatMap_append, ih, List.replicate_succ', hcells_append]; rfl
def hcopied (rs : List Ch.Hold) (n k : Nat) : List Value := hcells (rs.take k ++ List.replicate (n - k) Ch.Hold.zero)
theorem hcopied_end {rs : List Ch.Hold} {n : Nat} (h : n = rs.length) : hcopied rs n n = hcells rs := by
  subst h; simp [hcopied]
theorem hcopied_set {rs : List Ch.Hold} {n k : Nat} (h : n = rs.length) (hk : k < n) : ((hcopied rs n k).set (k * 2) (.int .i64 (rs.getD k Ch.Hold.zero).t)).set (k * 2 + 1) (.int .i64 (rs.getD k Ch.Hold.zero).m) = hcopied rs n (k + 1) := by
  unfold hcopied
  rw [hcells_set _ _ _ (by simp; omega), fill_set rs _ _ n k h hk]
theorem owns_stored2 {w : World} {base : Nat} {e : TypeId} {size g n cap : Nat} {xs : List Value} (h : w.ownsRow base e size (.slice (some ⟨g, 0, none⟩) n cap) n xs) (j : Nat) (a b : Value) :
    ((w.setCell ⟨g, j, none⟩ a).setCell ⟨g, j + 1, none⟩ b).ownsRow base e size (.slice (some ⟨g, 0, none⟩) n cap) n ((xs.set j a).set (j + 1) b) :=
  ((h.stored j a).1.stored (j + 1) b).1

def hmark (s : Int) (k : Nat) : Ch.Hold := ⟨s + 2 * (k : Int), s + 2 * (k : Int) + 1⟩
def hmarks (s : Int) (n : Nat) : List Ch.Hold := (List.range n).map (hmark s)
theorem hmarks_len (s : Int) (n : Nat) : (hmarks s n).length = n := by simp [hmarks]
theorem hmarks_snoc (s : Int) (n : Nat) : hmarks s (n + 1) = hmarks s n ++ [hmark s n] := by simp [hmarks, List.range_succ]
theorem hmarks_at (s : Int) (n k : Nat) (h : k < n) : (hmarks s n).getD k Ch.Hold.zero = hmark s k := by simp [hmarks, List.getD, h]
def hmarked (s : Int) (rs : List Ch.Hold) (k : Nat) : List Ch.Hold := hmarks s k ++ rs.drop k
theorem hmarked_set (s : Int) (rs : List Ch.Hold) (k : Nat) (h : k < rs.length) :
    ((hcells (hmarked s rs k)).set (k * 2) (.int .i64 (s + 2 * (k : Int)))).set (k * 2 + 1) (.int .i64 (s + 2 * (k : Int) + 1)) = hcells (hmarked s rs (k + 1)) := by
  have := hcells_set (hmarked s rs k) k (hmark s k) (by simp [hmarked, hmarks_len]; omega)
  rw [show hcells (hmarked s rs (k + 1)) = hcells ((hmarked s rs k).set k (hmark s k)) by unfold hmarked; rw [Ch.set_midH _ _ _ _ (hmarks_len s k) h, hmarks_snoc], ← this]
  rfl

theorem frz_of {w : World} {b o : Nat} {c : Array Value} {t : TypeId} (h : w.heap[b]? = some (.cells c t (0, 0))) : w.frozen? ⟨b, o, none⟩ = false := by simp [World.frozen?, h]

theorem row2 {W : World} {g : Nat} {t : TypeId} {u0 u1 : Value} (h : W.heap[g]? = some (.cells #[u0, u1] t (0, 0))) :
    W.cell? ⟨g, 0, none⟩ = some u0 ∧ W.cell? ⟨g, 1, none⟩ = some u1 ∧ W.frozen? ⟨g, 0, none⟩ = false ∧ W.frozen? ⟨g, 1, none⟩ = false :=
  ⟨cell_of_row _ _ _ _ _ _ h, cell_of_row _ _ _ _ _ _ h, frz_of h, frz_of h⟩
theorem new_hold (w : World) (t m : Int) (ty : TypeId) : CellsAt (w.alloc (.cells #[.int .i64 t, .int .i64 m] ty)) (some ⟨w.heap.size, 0, none⟩) (1 * 2) (hcells [⟨t, m⟩]) := by
  refine ⟨rfl, fun _ => ⟨_, _, rfl, fun i hi => ?_⟩⟩
  rw [Nat.zero_add]
  have := cell_of_row (w.alloc (.cells #[.int .i64 t, .int .i64 m] ty)) _ i _ _ _ (heap_alloc_new w _)
  rw [this]
  simp [hcells]

/-- REST -/
theorem hcells_take (hs : List Ch.Hold) (k : Nat) : hcells (hs.take k) = (hcells hs).take (k * 2) := by
  induction hs generalizing k with
  | nil => simp [hcells]
  | cons r rs ih =>
    cases k with
    | zero => simp [hcells]
    | succ k =>
      have := ih k
      simp only [hcells, List.take_succ_cons, List.flatMap_cons] at *
      rw [this, show (k + 1) * 2 = k * 2 + 1 + 1 by omega]
      simp
theorem cut_take {w : World} {a : Option Addr} {m : Nat} {xs : List Value} (h : CellsAt w a m xs) {k : Nat} (hk : k ≤ m) : CellsAt w a k (xs.take k) := by
  refine ⟨by rw [List.length_take, h.1]; omega, fun h0 => ?_⟩
  obtain ⟨b, off, ha, hc⟩ := h.2 (by omega)
  refine ⟨b, off, ha, fun i hi => ?_⟩
  rw [hc i (by omega), List.getElem?_take_of_lt hi]
theorem cut_drop {w : World} {b off m : Nat} {xs : List Value} (h : CellsAt w (some ⟨b, off, none⟩) m xs) {k : Nat} (hk : k ≤ m) : CellsAt w (some ⟨b, off + k, none⟩) (m - k) (xs.drop k) := by
  refine ⟨by rw [List.length_drop, h.1], fun hm => ?_⟩
  obtain ⟨b', off', ha, hc⟩ := h.2 (by omega)
  simp only [Option.some.injEq, Addr.mk.injEq, and_true] at ha
  obtain ⟨rfl, rfl⟩ := ha
  refine ⟨b, off + k, rfl, fun i hi => ?_⟩
  rw [List.getElem?_drop, Nat.add_assoc, hc _ (by omega)]
theorem hcut_drop (hs : List Ch.Hold) (k : Nat) (h : k ≤ hs.length) : hcells (hs.drop k) = (hcells hs).drop (k * 2) := by
  have e : hcells hs = hcells (hs.take k) ++ hcells (hs.drop k) := by rw [← hcells_append, List.take_append_drop]
  have e2 : (hcells (hs.take k)).length = k * 2 := by rw [hcells_len]; simp; omega
  rw [e, ← e2, List.drop_left]
theorem own_at {w : World} {base : Nat} {e : TypeId} {size : Nat} {a : Option Addr} {n c : Nat} {xs : List Value} (h : w.ownsRow base e size (.slice a n c) n xs) (h0 : 0 < n) : ∃ g, a = some ⟨g, 0, none⟩ := by
  rcases h.2 with ⟨hv, h1⟩ | ⟨g, cp, cur, hv, _⟩
  · omega
  · simp only [Value.slice.injEq] at hv; exact ⟨g, hv.1⟩

theorem owns_cap {w : World} {B : Nat} {e : TypeId} {size : Nat} {a : Option Addr} {n cap : Nat} {xs : List Value} (h : w.ownsRow B e size (.slice a n cap) n xs) : n ≤ cap := by
  rcases h.2 with ⟨hv, h0⟩ | ⟨g, cp, cur, hv, _, _, h1, _⟩
  · omega
  · simp only [Value.slice.injEq, true_and] at hv
    obtain ⟨_, rfl⟩ := hv
    exact h1

end Go.Proofs.Ytlpncikiaojmiaa


/- Lists of numbers: cells, comparisons, marks. -/
namespace Go.Proofs.Ytlpncikiaojmiaa
open Go.RowKit

def icells (zs : List Int) : List Value := zs.map (Value.int .i64)
theorem icells_len (zs : List Int) : (icells zs).length = zs.length := by simp [icells]
theorem icells_append (a b : List Int) : icells (a ++ b) = icells a ++ icells b := by simp [icells]
theorem icells_one' (zs : List Int) : ∀ u ∈ icells zs, u.oneCell' = true := by
  intro x hx
  simp only [icells, List.mem_map] at hx
  obtain ⟨r, _, rfl⟩ := hx
  rfl
theorem Try.info2 : (Try.prog.info? 2).map (fun i => (i.zero, i.size, i.bytes)) = some (some (.int .i64 0), 1, 8) := by kernel_rfl
theorem CellsAt.ilen {w : World} {a : Option Addr} {n : Nat} {zs : List Int} (h : CellsAt w a (n * 1) (icells zs)) : Hid (n = zs.length) := by
  have := h.1
  rw [icells_len] at this
  exact (by omega : n = zs.length)
theorem CellsAt.int {w : World} {a : Option Addr} {n : Nat} {zs : List Int} (h : CellsAt w a (n * 1) (icells zs)) {k : Nat} (hk : k < n) :
    ∃ b off, a = some ⟨b, off, none⟩ ∧ w.cell? ⟨b, off + k, none⟩ = some (.int .i64 (zs.getD k 0)) := by
  obtain ⟨b, off, ha, hc⟩ := h.2 (by omega)
  have hl := h.ilen.out
  refine ⟨b, off, ha, (hc k (by omega)).trans ?_⟩
  simp [icells, List.getD, show k < zs.length by omega]
theorem icells_set (zs : List Int) (k : Nat) (v : Int) : (icells zs).set k (.int .i64 v) = icells (zs.set k v) := by simp [icells, List.map_set]

set_option maxHeartbeats 400000 in
theorem eqInts_same (a a' : Option Addr) (n cap cap' : Nat) (zs : List Int) (w : World) (h : CellsAt w a (n * 1) (icells zs)) (h' : CellsAt w a' (n * 1) (icells zs)) (hn : n ≤ 4194304) :
    Calls Try.prog 17 #[.slice a n cap, .slice a' n cap'] w fun e w' => e = .returned (.bool true) ∧ Below w.heap.size w w' := by
  have hnn : ((n : Int) != n) = false := by simp
  go_enter Try.func17, Try.ntmps17
  go_wp2
  go_loopw [5] (fun i wr => ∃ k : Nat, k ≤ n ∧ i = .int .i64 k ∧ Below w.heap.size w wr) (fun i _ => n - (intOf i).toNat)
  case atStart => exact ⟨0, Nat.zero_le _, rfl, Below.refl _ _⟩
  case round =>
    obtain ⟨k, hk, rfl, hB⟩ := hrel
    by_cases hlt : k < n
    · obtain ⟨b, off, rfl, hc0⟩ := (h.below hB).int hlt
      obtain ⟨b', off', rfl, hd0⟩ := (h'.below hB).int hlt
      generalize zs.getD k 0 = r at *
      have hbl := lt_of_cell hc0
      have hbl' := lt_of_cell hd0
      have hrr : (r != r) = false := by simp
      go_wp2
      go_quiet (fail)
      go_wp2
      go_roundw
      case rel => exact ⟨k + 1, by omega, by go_num, hB.trans ⟨rfl, rfl, rfl, Nat.le_refl _, fun _ _ => rfl⟩⟩
      case measure => simp [intOf]; omega
    · obtain rfl : k = n := by omega
      go_wp2
      go_ret
      exact ⟨rfl, hB⟩

/-- The marks that a law writes into numbers, the first one s. -/
def imarks (s : Int) (n : Nat) : List Int := (List.range n).map fun (i : Nat) => s + (i : Int)
theorem imarks_len (s : Int) (n : Nat) : (imarks s n).length = n := by simp [imarks]
theorem imarks_snoc (s : Int) (n : Nat) : imarks s (n + 1) = imarks s n ++ [s + (n : Int)] := by simp [imarks, List.range_succ]
theorem imarks_at (s : Int) (n k : Nat) (h : k < n) : (imarks s n).getD k 0 = s + (k : Int) := by simp [imarks, List.getD, h]
def imarked (s : Int) (zs : List Int) (k : Nat) : List Int := imarks s k ++ zs.drop k
theorem imarked_set (s : Int) (zs : List Int) (k : Nat) (h : k < zs.length) : (icells (imarked s zs k)).set k (.int .i64 (s + (k : Int))) = icells (imarked s zs (k + 1)) := by
  rw [icells_set]
  unfold imarked
  rw [Ch.set_mid _ _ _ _ (imarks_len s k) h, imarks_snoc]

set_option maxHeartbeats 800000 in
theorem markInts_some (s : Int) (B g n cp : Nat) (zs : List Int) (w : World) (hs0 : 0 < s) (hs1 : s ≤ 1099511627776) (hown : w.ownsRow B 2 1 (.slice (some ⟨g, 0, none⟩) n cp) n (icells zs)) (hn : n ≤ 4194304) :
    Calls Try.prog 20 #[.slice (some ⟨g, 0, none⟩) n cp, .int .i64 s] w fun e w' => e = .returned (.int .i64 (s + n)) ∧ w'.ownsRow B 2 1 (.slice (some ⟨g, 0, none⟩) n cp) n (icells (imarks s n)) ∧ w.grownBy w' (some g) := by
  have HL := (owns_cells hown).ilen
  go_enter Try.func20, Try.ntmps20
  go_wp2
  go_loopw [1, 5] (fun q i wr => ∃ k : Nat, k ≤ n ∧ i = .int .i64 k ∧ q = .int .i64 (s + (k : Int)) ∧ wr.ownsRow B 2 1 (.slice (some ⟨g, 0, none⟩) n cp) n (icells (imarked s zs k)) ∧ w.grownBy wr (some g)) (fun _ i _ => n - (intOf i).toNat)
  case atStart => exact ⟨0, Nat.zero_le _, rfl, by simp, by simpa [imarked, imarks] using hown, ⟨rfl, rfl, rfl, Nat.le_refl _, fun _ _ _ => rfl⟩⟩
  case round =>
    obtain ⟨k, hk, rfl, rfl, own, gr⟩ := hrel
    by_cases hlt : k < n
    · have hf0 := own.frozenAt k
      obtain ⟨u0, hd0⟩ := owns_some own (j := k) (by omega)
      have HS := hid (imarked_set s zs k (by have := HL.out; omega))
      go_wp2
      go_roundw
      case rel =>
        refine ⟨k + 1, by omega, by go_num, by go_num, ?_, ?_⟩
        · rw [← HS.out]; exact (own.stored _ _).1
        · exact gr_trans gr (own.stored _ _).2
      case measure => simp [intOf]; omega
    · obtain rfl : k = n := by omega
      go_wp2
      go_ret
      refine ⟨rfl, ?_, gr⟩
      have := HL.out
      simpa [imarked, this] using own

theorem markInts_nil (s : Int) (w : World) : Calls Try.prog 20 #[.slice none 0 0, .int .i64 s] w fun e w' => e = .returned (.int .i64 s) ∧ w' = w := by
  go_enter Try.func20, Try.ntmps20
  go_wp2
  go_loop [1, 5] (fun q i => i = .int .i64 0 ∧ q = .int .i64 s) (fun _ _ => 0)
  case atStart => exact ⟨rfl, rfl⟩
  case round =>
    obtain ⟨rfl, rfl⟩ := hrel
    go_wp2
    go_ret
    exact ⟨rfl, rfl⟩

theorem markInts_any (s : Int) (B n : Nat) (a : Option Addr) (cap : Nat) (zs : List Int) (w : World) (hs0 : 0 < s) (hs1 : s ≤ 1099511627776) (hown : w.ownsRow B 2 1 (.slice a n cap) n (icells zs)) (hn : n ≤ 4194304) :
    Calls Try.prog 20 #[.slice a n cap, .int .i64 s] w fun e w' => e = .returned (.int .i64 (s + n)) ∧ w'.ownsRow B 2 1 (.slice a n cap) n (icells (imarks s n)) ∧ w.grownBy w' (Value.slice a n cap).ownBlock := by
  rcases hown.2 with ⟨hv, h0⟩ | ⟨g, cp, cur, hv, _⟩
  · simp only [Value.slice.injEq] at hv
    obtain ⟨rfl, rfl, rfl⟩ := hv
    refine (markInts_nil s w).mono ?_
    rintro e w1 ⟨rfl, rfl⟩
    exact ⟨by simp, World.ownsRow_nil _ _ _ _, ⟨rfl, rfl, rfl, Nat.le_refl _, fun _ _ _ => rfl⟩⟩
  · simp only [Value.slice.injEq, true_and] at hv
    obtain ⟨rfl, rfl⟩ := hv
    exact markInts_some s B g n cap zs w hs0 hs1 hown hn

set_option maxHeartbeats 400000 in
theorem heldInts_any (s : Int) (a : Option Addr) (n cp : Nat) (w : World) (hs0 : 0 < s) (hs1 : s ≤ 1099511627776) (h : CellsAt w a (n * 1) (icells (imarks s n))) (hn : n ≤ 4194304) :
    Calls Try.prog 64 #[.slice a n cp, .int .i64 s] w fun e w' => e = .returned (.int .i64 (s + n)) ∧ w' = w := by
  go_enter Try.func64, Try.ntmps64
  go_wp2
  go_loop [1, 5] (fun q i => ∃ k : Nat, k ≤ n ∧ i = .int .i64 k ∧ q = .int .i64 (s + (k : Int))) (fun _ i => n - (intOf i).toNat)
  case atStart => exact ⟨0, Nat.zero_le _, rfl, by simp⟩
  case round =>
    obtain ⟨k, hk, rfl, rfl⟩ := hrel
    by_cases hlt : k < n
    · obtain ⟨b, off, rfl, hc0⟩ := h.int hlt
      rw [imarks_at s n k hlt] at hc0
      have hbl := lt_of_cell hc0
      have hss : (s + (k : Int) != s + (k : Int)) = false := by simp
      go_wp2
      go_round
      case rel => exact ⟨k + 1, by omega, by go_num, by go_num⟩
      case measure => simp [intOf]; omega
    · obtain rfl : k = n := by omega
      go_wp2
      go_ret
      exact ⟨rfl, rfl⟩

set_option maxHeartbeats 400000 in
theorem eqIntsResult_same (c : Int) (a a' : Option Addr) (n cap cap' : Nat) (rs : List Int) (w : World) (h : CellsAt w a (n * 1) (icells rs)) (h' : CellsAt w a' (n * 1) (icells rs)) (hn : n ≤ 4194304) :
    Calls Try.prog 30 #[.agg #[.int .i64 c, .slice a n cap], .agg #[.int .i64 c, .slice a' n cap']] w fun e w' => e = .returned (.bool true) ∧ Below w.heap.size w w' := by
  have hcc : (c != c) = false := by simp
  have b0 : Below w.heap.size w ((w.alloc (.cells #[.int .i64 c, .slice a n cap] 53)).alloc (.cells #[.int .i64 c, .slice a' n cap'] 53)) := ((Below.refl _ _).alloc (Nat.le_refl _) _).alloc (by simp) _
  go_enter Try.func30, Try.ntmps30
  go_wp2_with fail
  refine (eqInts_same a a' n cap cap' rs _ (h.below b0) (h'.below b0) hn).mono ?_
  rintro e w1 ⟨rfl, b1⟩
  go_wp2
  go_ret
  exact ⟨rfl, b0.trans (b1.mono (by simp; omega))⟩

set_option maxHeartbeats 400000 in
theorem markIntsResult_any (c : Int) (B : Nat) (a : Option Addr) (n cap : Nat) (rs : List Int) (w : World) (hown : w.ownsRow B 2 1 (.slice a n cap) n (icells rs)) (hn : n ≤ 4194304) :
    Calls Try.prog 31 #[.agg #[.int .i64 c, .slice a n cap], .int .i64 1] w fun e w' => e = .returned (.int .i64 (1 + n)) ∧ w'.ownsRow B 2 1 (.slice a n cap) n (icells (imarks 1 n)) ∧ w.grownBy w' (Value.slice a n cap).ownBlock := by
  go_enter Try.func31, Try.ntmps31
  go_wp2_with fail
  refine (markInts_any 1 B n a cap rs _ (by decide) (by decide) (hown.alloc _) hn).mono ?_
  rintro e w1 ⟨rfl, own1, gr1⟩
  go_wp2
  go_ret
  exact ⟨rfl, own1, gr_alloc gr1⟩

set_option maxHeartbeats 400000 in
theorem heldIntsResult_any (c : Int) (a : Option Addr) (n cap : Nat) (w : World) (h : CellsAt w a (n * 1) (icells (imarks 1 n))) (hn : n ≤ 4194304) :
    Calls Try.prog 32 #[.agg #[.int .i64 c, .slice a n cap], .int .i64 1] w fun e w' => e = .returned (.int .i64 (1 + n)) ∧ Below w.heap.size w w' := by
  go_enter Try.func32, Try.ntmps32
  go_wp2_with fail
  refine (heldInts_any 1 a n cap _ (by decide) (by decide) (h.below ((Below.refl _ _).alloc (Nat.le_refl _) _)) hn).mono ?_
  rintro e w1 ⟨rfl, rfl⟩
  go_wp2
  go_ret
  exact ⟨rfl, (Below.refl _ _).alloc (Nat.le_refl _) _⟩
end Go.Proofs.Ytlpncikiaojmiaa


/- Append, of any list that is read (nil too) to any list of one's own (nil too), whatever names the two types bear. -/
namespace Go.Proofs.Ytlpncikiaojmiaa
open Go.RowKit

theorem app_types {t tn ty e e' : TypeId} {i : TypeInfo} (ht : Try.prog.underlying t = some (.slice e)) (htn : Try.prog.underlying tn = some (.slice e')) (hi : Try.prog.info? e = some i) (a : Option Addr) (n cp : Nat) (x : Value) (w : World) :
    (Builtin.append_ #[t, tn] ty #[.slice a n cp, x]).run Try.prog w = (Builtin.append_ #[t, t] ty #[.slice a n cp, x]).run Try.prog w := by
  simp [Builtin.append_, run_underlying ht, run_underlying htn, sizeOf, typeInfo, hi]

theorem addr_add (b off j : Nat) : (⟨b, off, none⟩ : Addr).add j = ⟨b, off + j, none⟩ := by
  unfold Addr.add
  split
  · next h0 => subst h0; rfl
  · rfl

theorem run_appX {t tn ty e e' : TypeId} {i : TypeInfo} {z : Value} {size bytes : Nat} (ht : Try.prog.underlying t = some (.slice e)) (htn : Try.prog.underlying tn = some (.slice e')) (hi : Try.prog.info? e = some i) (hz : i.zero = some z)
    (hsize : i.size = size) (hby : i.bytes = bytes) (hzs : z.cells.size = size) (hsz : 0 < size) (hbb : bytes ≤ 1024)
    {w : World} {B : Nat} {v : Value} {n : Nat} {xs : List Value} (hown : w.ownsRow B e size v n xs) {A : Option Addr} {m c : Nat} {news : List Value} (hc : CellsAt w A (m * size) news) (h1 : ∀ u ∈ news, u.oneCell' = true)
    (hn : n + m ≤ 4194304) (hbase : B ≤ w.heap.size) :
    ∃ a' c' w', (Builtin.append_ #[t, tn] ty #[v, .slice A m c]).run Try.prog w = .ok (.slice a' (n + m) c') w' ∧ w'.ownsRow B e size (.slice a' (n + m) c') (n + m) (xs ++ news) ∧ w.grownBy w' v.ownBlock ∧
      ∀ g, (Value.slice a' (n + m) c').ownBlock = some g → v.ownBlock = some g ∨ w.heap.size ≤ g := by
  obtain ⟨av, cv, hv⟩ := owns_shape hown
  subst hv
  rw [app_types ht htn hi]
  cases A with
  | some ad =>
    obtain ⟨v', w', hr, h2, h3, _, h5⟩ := run_append_own_at (P := Try.prog) w B t ty e i z size bytes ht hi hz hsize hby hzs hsz _ n xs hown ad m c news hc.1 (fun j u hj => by
      have hjl : j < news.length := (List.getElem?_eq_some_iff.1 hj).1
      have hl := hc.1
      obtain ⟨b, off, ha, hcc⟩ := hc.2 (by omega)
      simp only [Option.some.injEq] at ha
      subst ha
      rw [addr_add, hcc j (by omega), hj]) h1 (by unfold maxLen; omega) (by
        have := Nat.mul_le_mul hn hbb
        omega) hbase
    obtain ⟨a', c', rfl⟩ := owns_shape h2
    refine ⟨a', c', w', hr, h2, h3, fun g hg => ?_⟩
    rcases h5 with h5 | h5
    · exact .inl (by rw [← h5]; exact hg)
    · right
      rw [h5] at hg
      simp at hg
      omega
  | none =>
    have hm0 : m = 0 := by
      rcases Nat.eq_zero_or_pos m with h | h
      · exact h
      · obtain ⟨b, off, ha, _⟩ := hc.2 (Nat.mul_pos h hsz)
        simp at ha
    subst hm0
    have hne : news = [] := by
      have := hc.1
      rw [Nat.zero_mul] at this
      exact List.length_eq_zero_iff.1 this
    subst hne
    refine ⟨av, cv, w, ?_, by simpa using hown, ⟨rfl, rfl, rfl, Nat.le_refl _, fun _ _ _ => rfl⟩, fun g hg => .inl (by simpa using hg)⟩
    rcases hown.2 with ⟨hv, h0⟩ | ⟨g, cp, cur, hv, _, _, h1, _⟩
    · simp only [Value.slice.injEq] at hv
      obtain ⟨rfl, _, rfl⟩ := hv
      subst h0
      simp [Builtin.append_, run_underlying ht, sizeOf, typeInfo, hi, Builtin.lenOf, Builtin.firstCells]
    · simp only [Value.slice.injEq, true_and] at hv
      obtain ⟨rfl, rfl⟩ := hv
      simp [Builtin.append_, run_underlying ht, sizeOf, typeInfo, hi, Builtin.lenOf, Builtin.firstCells, h1, storeCells]

theorem wpList_appX {ops : Array Oper} {rest : List Oper} {o : Oper} {a : Act} {w : World} {Q : Exit → Act → World → Prop} {t tn e e' : TypeId} {i : TypeInfo} {z : Value} {size bytes : Nat} (ht : Try.prog.underlying t = some (.slice e)) (htn : Try.prog.underlying tn = some (.slice e')) (hi : Try.prog.info? e = some i) (hz : i.zero = some z)
    (hsize : i.size = size) (hby : i.bytes = bytes) (hzs : z.cells.size = size) (hsz : 0 < size) (hbb : bytes ≤ 1024) (s x : Operand)
    (ho : o.op = .call { callee := .builtin .append, args := #[s, x], argTypes := #[t, tn] }) (hgd : o.guard = none)
    (B : Nat) (v : Value) (n : Nat) (xs : List Value) (A : Option Addr) (m c : Nat) (news : List Value) (hs : a.eval s = v) (hx : a.eval x = .slice A m c)
    (hown : w.ownsRow B e size v n xs) (hc : CellsAt w A (m * size) news) (h1 : ∀ u ∈ news, u.oneCell' = true) (hn : n + m ≤ 4194304) (hbase : B ≤ w.heap.size)
    (hK : ∀ a' c' w', w'.ownsRow B e size (.slice a' (n + m) c') (n + m) (xs ++ news) → w.grownBy w' v.ownBlock → (∀ g, (Value.slice a' (n + m) c').ownBlock = some g → v.ownBlock = some g ∨ w.heap.size ≤ g) → wpList Try.prog ops Q rest (a.put o.dst (.slice a' (n + m) c')) w') :
    wpList Try.prog ops Q (o :: rest) a w := by
  obtain ⟨a', c', w', hr, h2, h3, h4⟩ := run_appX (ty := o.type) (c := c) ht htn hi hz hsize hby hzs hsz hbb hown hc h1 hn hbase
  exact Lib.wpList_append_run w hgd s x t tn ho _ _ hs hx _ _ hr (hK a' c' w' h2 h3 h4)

theorem step_appX {ops : Array Oper} {o : Oper} {a : Act} {w : World} {K : Act → World → Prop} {Q : Exit → Act → World → Prop} {E : Prop} {t tn e e' : TypeId} {i : TypeInfo} {z : Value} {size bytes : Nat} (ht : Try.prog.underlying t = some (.slice e)) (htn : Try.prog.underlying tn = some (.slice e')) (hi : Try.prog.info? e = some i) (hz : i.zero = some z)
    (hsize : i.size = size) (hby : i.bytes = bytes) (hzs : z.cells.size = size) (hsz : 0 < size) (hbb : bytes ≤ 1024) (s x : Operand)
    (ho : o.op = .call { callee := .builtin .append, args := #[s, x], argTypes := #[t, tn] }) (hgd : o.guard = none)
    (B : Nat) (v : Value) (n : Nat) (xs : List Value) (A : Option Addr) (m c : Nat) (news : List Value) (hs : a.eval s = v) (hx : a.eval x = .slice A m c)
    (hown : w.ownsRow B e size v n xs) (hc : CellsAt w A (m * size) news) (h1 : ∀ u ∈ news, u.oneCell' = true) (hn : n + m ≤ 4194304) (hbase : B ≤ w.heap.size)
    (hK : ∀ a' c' w', w'.ownsRow B e size (.slice a' (n + m) c') (n + m) (xs ++ news) → w.grownBy w' v.ownBlock → (∀ g, (Value.slice a' (n + m) c').ownBlock = some g → v.ownBlock = some g ∨ w.heap.size ≤ g) → K (a.put o.dst (.slice a' (n + m) c')) w') :
    if Region.wanted o (yielded ops a.tmps) = true then Oper.wp Try.prog o a w K Q else E := by
  have hw : Region.wanted o (yielded ops a.tmps) = true := by simp [Region.wanted, hgd]
  rw [if_pos hw]
  obtain ⟨a', c', w', hr, h2, h3, h4⟩ := run_appX (ty := o.type) (c := c) ht htn hi hz hsize hby hzs hsz hbb hown hc h1 hn hbase
  exact Lib.wp_append_run w s x t tn ho _ _ hs hx _ _ hr (hK a' c' w' h2 h3 h4)
end Go.Proofs.Ytlpncikiaojmiaa


/- Blocks and cells that stay. -/
namespace Go.Proofs.Ytlpncikiaojmiaa
open Go.RowKit

theorem heap_below {w w' : World} (hb : Below w.heap.size w w') {b : Nat} {o : Obj} (h : w.heap[b]? = some o) : w'.heap[b]? = some o :=
  (hb.block b (Array.getElem?_eq_some_iff.1 h).1).trans h

theorem own_ne {w : World} {base : Nat} {e : TypeId} {size : Nat} {v : Value} {n : Nat} {xs : List Value} (h : w.ownsRow base e size v n xs) {b : Nat} (hb : b < base) : v.ownBlock ≠ some b := fun e => by
  have := (owns_lt h b e).1
  omega
theorem new_int (w : World) (r : Int) (t : TypeId) : CellsAt (w.alloc (.cells #[.int .i64 r] t)) (some ⟨w.heap.size, 0, none⟩) (1 * 1) (icells [r]) := by
  refine ⟨rfl, fun _ => ⟨_, _, rfl, fun i hi => ?_⟩⟩
  rw [Nat.zero_add]
  have := cell_of_row (w.alloc (.cells #[.int .i64 r] t)) _ i _ _ _ (heap_alloc_new w _)
  rw [this]
  simp [icells]
end Go.Proofs.Ytlpncikiaojmiaa


/- CommittedOf of the program and of the model. -/
namespace Go.Proofs.Ytlpncikiaojmiaa
open Go.RowKit

theorem ret_boolV {a b : Bool} (h : a = b) : Ending.returned (.bool a) = .returned (.bool b) := by rw [h]
theorem own_empty (w : World) (B : Nat) (e : TypeId) (size : Nat) (hB : B ≤ w.heap.size) : (w.alloc (.cells #[] e)).ownsRow B e size (.slice (some ⟨w.heap.size, 0, none⟩) 0 0) 0 [] :=
  World.ownsRow_lit w #[] 0 hB (by unfold maxLen; omega) (by simp)
theorem own_apartV {w : World} {base : Nat} {e : TypeId} {size : Nat} {v : Value} {n : Nat} {xs : List Value} (h : w.ownsRow base e size v n xs) {b : Nat} (hb : b < base) : v.ownBlock ≠ some b := by
  intro he
  have := (owns_lt h b he).1
  omega
theorem block_belowV {w w' : World} (hb : Below w.heap.size w w') {b : Nat} {o : Obj} (h : w.heap[b]? = some o) : w'.heap[b]? = some o :=
  (hb.block b (Array.getElem?_eq_some_iff.1 h).1).trans h
theorem block_grownV {w w' : World} {row : Option Nat} {b : Nat} {o : Obj} (hg : w.grownBy w' row) (h : w.heap[b]? = some o) (hne : row ≠ some b) : w'.heap[b]? = some o :=
  (hg.block b (Array.getElem?_eq_some_iff.1 h).1 (fun e => hne e.symm)).trans h
theorem Ch.has_snocV {zs : List Int} {v : Int} {k : Nat} (hk : k < zs.length) : (zs.take (k + 1)).contains v = ((zs.take k).contains v || (zs.getD k 0 == v)) := by
  rw [List.take_add_one, List.getElem?_eq_getElem hk, Bool.eq_iff_iff]
  simp only [Option.toList_some, List.getD, List.getElem?_eq_getElem hk, Option.getD_some, List.contains_iff_mem, List.mem_append, List.mem_singleton, Bool.or_eq_true, beq_iff_eq]
  exact or_congr_right ⟨fun h => h.symm, fun h => h.symm⟩
theorem Ch.has_yesV {zs : List Int} {v : Int} {k : Nat} (hk : k < zs.length) (h : zs.getD k 0 = v) : zs.contains v = true := by
  rw [List.contains_iff_mem, ← h]
  simp [List.getD, hk]

/-- What the place of a value tells. -/
def IdxIs (c : Bool) (q : Int) : Prop := if c = true then 0 ≤ q else q < 0
theorem idx_none : IdxIs false (-1) := by unfold IdxIs; decide
end Go.Proofs.Ytlpncikiaojmiaa


/- What each key has, in memory: an array of a hundred slots; set of the program. -/
namespace Go.Proofs.Ytlpncikiaojmiaa
open Go.RowKit

def slcells (S : Ch.Sl) : List Value := (List.range 100).flatMap (fun i : Nat => [.bool (S i).isSome, .int .i64 ((S i).getD 0)])
def slA (S : Ch.Sl) : Array Value := (slcells S).toArray
theorem pairs_len (f : Nat → List Value) (hf : ∀ i, (f i).length = 2) : ∀ m, ((List.range m).flatMap f).length = 2 * m := by
  intro m
  induction m with
  | zero => rfl
  | succ m ih => rw [List.range_succ, List.flatMap_append, List.length_append, ih]; simp [hf]; omega
theorem pairs_at (f : Nat → List Value) (hf : ∀ i, (f i).length = 2) : ∀ m i j, i < m → j < 2 → ((List.range m).flatMap f)[2 * i + j]? = (f i)[j]? := by
  intro m
  induction m with
  | zero => intro i j h; omega
  | succ m ih =>
    intro i j hi hj
    rw [List.range_succ, List.flatMap_append]
    have hl := pairs_len f hf m
    by_cases e : i < m
    · rw [List.getElem?_append_left (by rw [hl]; omega), ih i j e hj]
    · obtain rfl : i = m := by omega
      rw [List.getElem?_append_right (by rw [hl]; omega), hl]
      simp [show 2 * i + j - 2 * i = j by omega]
theorem slcells_len (S : Ch.Sl) : (slcells S).length = 200 := pairs_len _ (fun _ => rfl) 100
theorem slcells_at (S : Ch.Sl) {i j : Nat} (hi : i < 100) (hj : j < 2) : (slcells S)[2 * i + j]? = [Value.bool (S i).isSome, .int .i64 ((S i).getD 0)][j]? := pairs_at _ (fun _ => rfl) 100 i j hi hj
theorem slcells_set (S : Ch.Sl) {k : Nat} (hk : k < 100) (o : Option Int) : ((slcells S).set (2 * k) (.bool o.isSome)).set (2 * k + 1) (.int .i64 (o.getD 0)) = slcells (S.set k o) := by
  apply List.ext_getElem?
  intro q
  by_cases hq : q < 200
  · have hi : q / 2 < 100 := by omega
    have hj : q % 2 < 2 := by omega
    have e : q = 2 * (q / 2) + q % 2 := by omega
    have h1 := slcells_at S hi hj
    have h2 := slcells_at (S.set k o) hi hj
    rw [← e] at h1 h2
    rw [h2, List.getElem?_set, List.getElem?_set, List.length_set, slcells_len]
    have hm : q % 2 = 0 ∨ q % 2 = 1 := by omega
    by_cases hqk : q / 2 = k
    · rcases hm with hm | hm
      · rw [if_neg (by omega), if_pos (by omega), if_pos (by omega), hm, hqk]
        simp [Ch.Sl.set]
      · rw [if_pos (by omega), if_pos (by omega), hm, hqk]
        simp [Ch.Sl.set]
    · rw [if_neg (by omega), if_neg (by omega), h1]
      have : (S.set k o) ((q / 2 : Nat) : Int) = S ((q / 2 : Nat) : Int) := by simp only [Ch.Sl.set]; rw [if_neg (by omega)]
      rw [this]
  · rw [List.getElem?_eq_none (by simp [slcells_len]; omega), List.getElem?_eq_none (by rw [slcells_len]; omega)]

/-- The slots in memory. -/
def Slt (w : World) (b : Nat) (S : Ch.Sl) : Prop := w.heap[b]? = some (.cells (slA S) 95 (0, 0))
theorem Slt.lt {w : World} {b : Nat} {S : Ch.Sl} (h : Slt w b S) : b < w.heap.size := (Array.getElem?_eq_some_iff.1 h).1
theorem Slt.cell {w : World} {b : Nat} {S : Ch.Sl} (h : Slt w b S) {i : Nat} (hi : i < 100) : w.cell? ⟨b, 2 * i, none⟩ = some (.bool (S i).isSome) ∧ w.cell? ⟨b, 2 * i + 1, none⟩ = some (.int .i64 ((S i).getD 0)) := by
  have h0 := slcells_at S hi (by omega : 0 < 2)
  have h1 := slcells_at S hi (by omega : 1 < 2)
  have key : ∀ j, w.cell? ⟨b, j, none⟩ = (slcells S)[j]? := fun j => by
    unfold World.cell?
    unfold Slt at h
    simp only [h]
    simp [slA]
  rw [key, key]
  exact ⟨h0, h1⟩
theorem Slt.frozen {w : World} {b : Nat} {S : Ch.Sl} (h : Slt w b S) (i : Nat) : w.frozen? ⟨b, i, none⟩ = false := by
  unfold Slt at h
  simp [World.frozen?, h]
theorem Slt.put {w : World} {b : Nat} {S : Ch.Sl} (h : Slt w b S) {k : Nat} (hk : k < 100) (o : Option Int) : Slt ((w.setCell ⟨b, 2 * k, none⟩ (.bool o.isSome)).setCell ⟨b, 2 * k + 1, none⟩ (.int .i64 (o.getD 0))) b (S.set k o) := by
  have h1 := Joins.block_setCell (i := 2 * k) h (.bool o.isSome)
  have h2 := Joins.block_setCell (i := 2 * k + 1) h1 (.int .i64 (o.getD 0))
  unfold Slt
  rw [h2]
  congr 2
  rw [slA, slA, ← slcells_set S hk o]
  simp
theorem Slt.keep {w w' : World} {b : Nat} {S : Ch.Sl} (h : Slt w b S) {row : Option Nat} (hg : w.grownBy w' row) (hne : row ≠ some b) : Slt w' b S := block_grownV hg h hne
theorem Slt.below {w w' : World} {b : Nat} {S : Ch.Sl} (h : Slt w b S) (hb : Below w.heap.size w w') : Slt w' b S := block_belowV hb h
theorem Slt.alloc {w : World} {b : Nat} {S : Ch.Sl} (h : Slt w b S) (o : Obj) : Slt (w.alloc o) b S := h.below ((Below.refl _ _).alloc (Nat.le_refl _) _)
end Go.Proofs.Ytlpncikiaojmiaa


/- set of the program: a slot is cleared, then filled. -/
namespace Go.Proofs.Ytlpncikiaojmiaa
open Go.RowKit

theorem setCells_two (w : World) (b o : Nat) (x y : Value) : w.setCells b o [x, y] = (w.setCell ⟨b, o, none⟩ x).setCell ⟨b, o + 1, none⟩ y := rfl
theorem Slt.set2 {w : World} {b : Nat} {S : Ch.Sl} (h : Slt w b S) {k : Nat} (hk : k < 100) (o : Option Int) : Slt ((w.setCell ⟨b, k * 2, none⟩ (.bool o.isSome)).setCell ⟨b, k * 2 + 1, none⟩ (.int .i64 (o.getD 0))) b (S.set k o) := by
  have := h.put hk o
  rw [Nat.mul_comm] at this
  exact this
theorem Slt.cell2 {w : World} {b : Nat} {S : Ch.Sl} (h : Slt w b S) {i : Nat} (hi : i < 100) : w.cell? ⟨b, i * 2, none⟩ = some (.bool (S i).isSome) ∧ w.cell? ⟨b, i * 2 + 1, none⟩ = some (.int .i64 ((S i).getD 0)) := by
  rw [Nat.mul_comm]
  exact h.cell hi
theorem Ch.Sl.set_set (S : Ch.Sl) (k : Int) (o p : Option Int) : (S.set k o).set k p = S.set k p := by
  funext q
  simp only [Ch.Sl.set]
  split <;> rfl
theorem gr_setW {w : World} {s o : Nat} {v : Value} : w.grownBy (w.setCell ⟨s, o, none⟩ v) (some s) := ⟨rfl, rfl, rfl, by simp [World.setCell], fun k _ hne => Below.heap_setCell _ _ _ _ (by intro e; exact hne (by rw [e]))⟩
theorem gr_two {a b c : World} {row : Option Nat} (h : a.grownBy b row) (k : b.grownBy c row) : a.grownBy c row :=
  ⟨k.os.trans h.os, k.tape.trans h.tape, k.output.trans h.output, Nat.le_trans h.size k.size, fun i hi hne => (k.block i (Nat.lt_of_lt_of_le hi h.size) hne).trans (h.block i hi hne)⟩

theorem clearSlot (w : World) (ty b o c : Nat) (hc : ∀ j, j < 2 → (w.cell? ⟨b, o + j, none⟩).isSome = true) (hf : ∀ j, j < 2 → w.frozen? ⟨b, o + j, none⟩ = false) :
    (Builtin.clear_ #[109] ty #[.slice (some ⟨b, o, none⟩) 1 c]).run Try.prog w = .ok (.tuple #[]) (w.setCells b o [.bool false, .int .i64 0]) := by
  have hv : ∀ W, (zeroValue 93).run Try.prog W = .ok (.agg #[.bool false, .int .i64 0]) W := fun _ => by kernel_rfl
  have hzc : (Builtin.zeroCells (Value.cells (.agg #[.bool false, .int .i64 0])) 1).toList = [.bool false, .int .i64 0] := by kernel_rfl
  have hst := run_storeCells_cells (P := Try.prog) b o [.bool false, .int .i64 0] 0 w (by simpa using hc) (by simpa using hf) (by decide)
  simp only [Nat.add_zero] at hst
  simp [Builtin.clear_, run_underlying Try.underlying109, hv, hzc, hst]
theorem sliceSlot (b k : Nat) (hk : k < 100) (w : World) :
    (Instr.sliceAt 95 (.pointer (some ⟨b, 0, none⟩)) (some (.int .i64 (k : Int))) (some (.int .i64 ((k : Int) + 1))) none).run Try.prog w = .ok (.slice (some ⟨b, k * 2, none⟩) 1 (100 - k)) w := by
  have ha : Try.prog.underlying 95 = some (.array (Try.prog.arrayLen 95) (Try.prog.elem 95)) := by kernel_rfl
  have hl : Try.prog.arrayLen 95 = 100 := by kernel_rfl
  have he : Try.prog.elem 95 = 93 := by kernel_rfl
  have hs := Try.sizeOf93
  rw [← he] at hs
  rw [run_sliceAt_array_lh (ht := ha) (h0 := by omega) (h1 := by omega) (h2 := by rw [hl]; omega), hs]
  have e1 : (k : Int).toNat = k := by omega
  have e2 : ((k : Int) + 1).toNat = k + 1 := by omega
  rw [hl, e1, e2]
  unfold Result.andThen slicedAt
  dsimp only
  rw [if_neg (by omega), addr_add, Nat.zero_add, show k + 1 - k = 1 by omega]

set_option maxHeartbeats 2000000 in
theorem set_any (b : Nat) (ky : Int) (hs : Bool) (nw : Int) (S : Ch.Sl) (w : World) (h : Slt w b S) (hk : 0 ≤ ky ∧ ky ≤ 99) :
    Calls Try.prog 71 #[.pointer (some ⟨b, 0, none⟩), .int .i64 ky, .bool hs, .int .i64 nw] w fun e w' => e = .returned (.tuple #[]) ∧ Slt w' b (S.set ky (Ch.optV hs nw)) ∧ w.grownBy w' (some b) := by
  obtain ⟨k, rfl⟩ : ∃ k : Nat, ky = k := ⟨ky.toNat, by omega⟩
  have hk' : k < 100 := by omega
  have hsl := sliceSlot b k hk'
  have c2 := h.cell2 hk'
  have hcl := fun ty c => clearSlot w ty b (k * 2) c (fun j hj => by match j, hj with | 0, _ => rw [Nat.add_zero, c2.1]; rfl | 1, _ => rw [c2.2]; rfl) (fun j _ => h.frozen _)
  rw [setCells_two] at hcl
  have h1 := h.set2 hk' none
  have g1 : w.grownBy ((w.setCell ⟨b, k * 2, none⟩ (.bool false)).setCell ⟨b, k * 2 + 1, none⟩ (.int .i64 0)) (some b) := gr_two gr_setW gr_setW
  simp only [Option.isSome_none, Option.getD_none] at h1
  generalize hW : (w.setCell ⟨b, k * 2, none⟩ (.bool false)).setCell ⟨b, k * 2 + 1, none⟩ (.int .i64 0) = W1 at *
  have f0 := h1.frozen (k * 2)
  have f1 := h1.frozen (k * 2 + 1)
  have c1 := h1.cell2 hk'
  obtain ⟨d0, d1⟩ := c1
  have hll := h1.lt
  clear c2 hW
  cases hs
  · have HE : Hid (Ch.optV false nw = none) := rfl
    rw [HE.out]
    clear d0 d1 f0 f1
    go_enter Try.func71, Try.ntmps71
    go_wp2
    exact bodyPost_end (results_none rfl _ _ _) rfl ⟨rfl, h1, g1⟩
  · have HE : Hid (Ch.optV true nw = some nw) := rfl
    rw [HE.out]
    have h2 := h1.set2 hk' (some nw)
    rw [Ch.Sl.set_set] at h2
    have g2 := gr_two (gr_two g1 (gr_setW (w := W1) (s := b) (o := k * 2) (v := .bool true))) (gr_setW (s := b) (o := k * 2 + 1) (v := .int .i64 nw))
    go_enter Try.func71, Try.ntmps71
    go_wp2
    exact bodyPost_end (results_none rfl _ _ _) rfl ⟨rfl, h2, g2⟩
end Go.Proofs.Ytlpncikiaojmiaa


/- The rows that a store is to begin with: faults; an answer with a code alone. -/
namespace Go.Proofs.Ytlpncikiaojmiaa
open Go.RowKit

set_option maxHeartbeats 1000000 in
theorem implBase_any (a : Option Addr) (n cap : Nat) (rs : List Ch.Row) (w : World) (h : CellsAt w a (n * 3) (rcells rs)) (hn : n ≤ 1048576) :
    Calls Try.prog 70 #[.slice a n cap] w fun e w' => e = .returned (.int .i64 (Ch.baseF rs)) ∧ Below w.heap.size w w' := by
  have HL := h.rlen
  have IM := implMapOf_any a n cap rs w h hn
  obtain ⟨c, HC⟩ : ∃ c, Hid (Ch.mapF rs = c) := ⟨_, rfl⟩
  by_cases h0 : c = 0
  · subst h0
    rw [Ch.mapRR_ok HC.out] at IM
    dsimp only at IM
    by_cases hg : (Ch.noGhost rs).length < rs.length
    · rw [Ch.base_ghost HC.out hg]
      go_enter Try.func70, Try.ntmps70
      go_wp2_with fail
      refine IM.mono ?_
      rintro e w1 ⟨a1, m1, c1, rfl, hm1, o1, b1⟩
      have hm : (m1 : Int) < (n : Int) := by have := (owns_cells o1).rlen.out; have := HL.out; omega
      clear HC HL IM o1 hg
      go_wp2
      go_ret
      exact ⟨rfl, b1.alloc b1.size _⟩
    · rw [Ch.base_fine HC.out hg]
      go_enter Try.func70, Try.ntmps70
      go_wp2_with fail
      refine IM.mono ?_
      rintro e w1 ⟨a1, m1, c1, rfl, hm1, o1, b1⟩
      have hm : ¬ (m1 : Int) < (n : Int) := by have := (owns_cells o1).rlen.out; have := HL.out; omega
      clear HC HL IM o1 hg
      go_wp2
      go_ret
      exact ⟨rfl, b1.alloc b1.size _⟩
  · have hc : (c != 0) = true := by simpa using h0
    rw [Ch.mapRR_code HC.out hc] at IM
    rw [Ch.base_map HC.out hc]
    dsimp only at IM
    clear HC h0 HL
    go_enter Try.func70, Try.ntmps70
    go_wp2_with fail
    refine IM.mono ?_
    rintro e w1 ⟨a1, m1, c1, rfl, hm1, o1, b1⟩
    clear IM o1
    go_wp2
    go_ret
    exact ⟨rfl, b1.alloc b1.size _⟩

set_option maxHeartbeats 1000000 in
theorem specBase_any (a : Option Addr) (n cap : Nat) (rs : List Ch.Row) (w : World) (h : CellsAt w a (n * 3) (rcells rs)) (hn : n ≤ 1048576) :
    Calls Try.prog 35 #[.slice a n cap] w fun e w' => e = .returned (.int .i64 (Ch.baseF rs)) ∧ Below w.heap.size w w' := by
  have HL := h.rlen
  have IM := specMapOf_any a n cap rs w h hn
  obtain ⟨c, HC⟩ : ∃ c, Hid (Ch.mapF rs = c) := ⟨_, rfl⟩
  by_cases h0 : c = 0
  · subst h0
    rw [Ch.mapRR_ok HC.out] at IM
    dsimp only at IM
    by_cases hg : (Ch.noGhost rs).length < rs.length
    · rw [Ch.base_ghost HC.out hg]
      go_enter Try.func35, Try.ntmps35
      go_wp2_with fail
      refine IM.mono ?_
      rintro e w1 ⟨a1, m1, c1, rfl, hm1, o1, b1⟩
      have hm : ((m1 : Int) != (n : Int)) = true := by have := (owns_cells o1).rlen.out; have := HL.out; simp; omega
      clear HC HL IM o1 hg
      go_wp2
      go_ret
      exact ⟨rfl, b1.alloc b1.size _⟩
    · rw [Ch.base_fine HC.out hg]
      go_enter Try.func35, Try.ntmps35
      go_wp2_with fail
      refine IM.mono ?_
      rintro e w1 ⟨a1, m1, c1, rfl, hm1, o1, b1⟩
      have hm : ((m1 : Int) != (n : Int)) = false := by have := (owns_cells o1).rlen.out; have := HL.out; have := Ch.noGhost_len rs; simp; omega
      clear HC HL IM o1 hg
      go_wp2
      go_ret
      exact ⟨rfl, b1.alloc b1.size _⟩
  · have hc : (c != 0) = true := by simpa using h0
    rw [Ch.mapRR_code HC.out hc] at IM
    rw [Ch.base_map HC.out hc]
    dsimp only at IM
    clear HC h0 HL
    go_enter Try.func35, Try.ntmps35
    go_wp2_with fail
    refine IM.mono ?_
    rintro e w1 ⟨a1, m1, c1, rfl, hm1, o1, b1⟩
    clear IM o1
    go_wp2
    go_ret
    exact ⟨rfl, b1.alloc b1.size _⟩

end Go.Proofs.Ytlpncikiaojmiaa


/- slotsOf, redo, rows of the program. -/
namespace Go.Proofs.Ytlpncikiaojmiaa
open Go.RowKit

theorem buildSlots (w : World) : (Instr.build 95 #[]).run Try.prog w = .ok (.agg (slA (fun _ => none))) w := by kernel_rfl
theorem Ch.row_key {r : Ch.Row} (h : r.fault = 0) : 0 ≤ r.k ∧ r.k ≤ 99 := by
  have := Ch.fits_of_fault h
  unfold Ch.Row.fits at this
  omega

set_option maxRecDepth 20000 in
set_option maxHeartbeats 2000000 in
theorem slots_any (a : Option Addr) (n cap : Nat) (rs : List Ch.Row) (w : World) (h : CellsAt w a (n * 3) (rcells rs)) (hn : n ≤ 240) (hf : ∀ k, k < rs.length → (rs.getD k Ch.Row.zero).fault = 0) :
    Calls Try.prog 40 #[.slice a n cap] w fun e w' => e = .returned (.pointer (some ⟨w.heap.size, 0, none⟩)) ∧ Slt w' w.heap.size (Ch.baseTo rs rs.length) ∧ Below w.heap.size w w' := by
  have HL := h.rlen
  have HF := hid hf
  clear hf
  have hbd := buildSlots
  have h0 : Slt (w.alloc (.cells (slA (fun _ => none)) 95)) w.heap.size (Ch.baseTo rs 0) := heap_alloc_new w _
  go_enter Try.func40, Try.ntmps40
  go_wp2
  go_loopw [10] (fun i wr => ∃ k : Nat, k ≤ n ∧ i = .int .i64 k ∧ Slt wr w.heap.size (Ch.baseTo rs k) ∧ Below w.heap.size w wr) (fun i _ => n - (intOf i).toNat)
  case atStart => exact ⟨0, Nat.zero_le _, rfl, h0, (Below.refl _ _).alloc (Nat.le_refl _) _⟩
  case round =>
    clear h0 hbd
    obtain ⟨k, hk, rfl, hS, hB⟩ := hrel
    by_cases hlt : k < n
    · have hkl : k < rs.length := by have := HL.out; omega
      have HK := hid (Ch.row_key (HF.out k hkl))
      have HT := hid (Ch.baseTo_step (rs := rs) hkl)
      obtain ⟨b, off, rfl, q0, q1, q2⟩ := (h.below hB).row hlt
      have hbl := lt_of_cell q0
      generalize rs.getD k Ch.Row.zero = r at *
      obtain ⟨rk, rv, rg⟩ := r
      simp only at q0 q1 q2 HT HK
      have hkk : 0 ≤ rk ∧ rk ≤ 99 := HK.out
      have IS := fun W hW => set_any w.heap.size rk true rv (Ch.baseTo rs k) W hW hkk
      have hS1 := hS.alloc (.cells #[.int .i64 rk, .int .i64 rv, .bool rg] 64)
      have b1 := hB.alloc hB.size (.cells #[.int .i64 rk, .int .i64 rv, .bool rg] 64)
      go_wp2_with fail
      refine (IS _ hS1).mono ?_
      rintro e w1 ⟨rfl, hS2, g2⟩
      have b2 := b1.grown g2 b1.size (fun j hj => by cases hj; exact Nat.le_refl _)
      clear IS hS1 g2 b1
      go_wp2
      go_roundw
      case rel => exact ⟨k + 1, by omega, by go_num, by rw [HT.out]; exact hS2, b2⟩
      case measure => simp [intOf]; omega
    · obtain rfl : k = n := by omega
      have HWF : Hid (k = rs.length) := HL.out
      rw [HWF.out] at hS
      go_wp2
      go_ret
      exact ⟨rfl, hS, hB⟩

theorem Ch.redo1_no {S : Ch.Sl} {r : Ch.Rec} (h : Ch.sets r.kd = false) : Ch.redo1 S r = S := by unfold Ch.redo1; rw [h]; rfl
theorem Ch.redo1_yes {S : Ch.Sl} {r : Ch.Rec} (h : Ch.sets r.kd = true) : Ch.redo1 S r = S.set r.ky (Ch.optV r.hs r.nw) := by unfold Ch.redo1; rw [h]; rfl

end Go.Proofs.Ytlpncikiaojmiaa


/- rows of the program: a row for each slot that has a value. -/
namespace Go.Proofs.Ytlpncikiaojmiaa
open Go.RowKit

theorem rcells_appendV (a b : List Ch.Row) : rcells (a ++ b) = rcells a ++ rcells b := by simp [rcells]
theorem rcells_oneV (zs : List Ch.Row) : ∀ u ∈ rcells zs, u.oneCell' = true := by
  intro u hu
  simp only [rcells, List.mem_flatMap] at hu
  obtain ⟨r, _, hu⟩ := hu
  simp at hu
  rcases hu with rfl | rfl | rfl <;> rfl
theorem new_rowV (w : World) (k v : Int) (g : Bool) (t : TypeId) : CellsAt (w.alloc (.cells #[.int .i64 k, .int .i64 v, .bool g] t)) (some ⟨w.heap.size, 0, none⟩) (1 * 3) (rcells [⟨k, v, g⟩]) := by
  refine ⟨rfl, fun _ => ⟨_, _, rfl, fun i hi => ?_⟩⟩
  rw [Nat.zero_add]
  have := cell_of_row (w.alloc (.cells #[.int .i64 k, .int .i64 v, .bool g] t)) _ i _ _ _ (heap_alloc_new w _)
  rw [this]
  simp [rcells]

set_option maxRecDepth 20000 in
set_option maxHeartbeats 2000000 in
theorem rowsP_any (p : Nat) (S : Ch.Sl) (w : World) (h : Slt w p S) :
    Calls Try.prog 45 #[.pointer (some ⟨p, 0, none⟩)] w fun e w' => ∃ a' m c', e = .returned (.slice a' m c') ∧ m ≤ 100 ∧ w'.ownsRow w.heap.size 64 3 (.slice a' m c') m (rcells (Ch.rowsS S)) ∧ Below w.heap.size w w' := by
  obtain ⟨i0, hi0, hz0, hz1, hz2⟩ := info_parts Try.info64
  have HR : Hid (Ch.rowsS S = Ch.rowsTo S 100) := rfl
  rw [HR.out]
  go_enter Try.func45, Try.ntmps45
  go_wp2
  go_loopw [3, 8] (fun q i wr => ∃ (k m : Nat) (a' : Option Addr) (c' : Nat), k ≤ 100 ∧ m ≤ k ∧ i = .int .i64 k ∧ q = .slice a' m c' ∧ wr.ownsRow w.heap.size 64 3 (.slice a' m c') m (rcells (Ch.rowsTo S k)) ∧ Slt wr p S ∧ Below w.heap.size w wr) (fun _ i _ => 100 - (intOf i).toNat)
  case atStart => exact ⟨0, 0, none, 0, Nat.zero_le _, Nat.le_refl _, rfl, rfl, World.ownsRow_nil _ _ _ _, h, Below.refl _ _⟩
  case round =>
    obtain ⟨k, m, a', c', hk, hmk, rfl, rfl, own, hS, hB⟩ := hrel
    by_cases hlt : k < 100
    · have HY := hid (fun v hv => Ch.rowsTo_yes (S := S) (m := k) (v := v) hv)
      have HN := hid (fun hv => Ch.rowsTo_no (S := S) (m := k) hv)
      obtain ⟨d0, d1⟩ := hS.cell2 hlt
      have hpl := hS.lt
      generalize S (k : Int) = o at *
      generalize Ch.rowsTo S k = zs at *
      have i1 : (k : Int) < 100 := by omega
      cases o with
      | none =>
        simp only [Option.isSome_none, Option.getD_none] at d0 d1
        have own2 := owns_below own ((Below.refl _ _).alloc (Nat.le_refl _) (.cells #[.bool false, .int .i64 0] 93))
        have hS2 := hS.alloc (.cells #[.bool false, .int .i64 0] 93)
        have b2 := (hB.alloc hB.size (.cells #[.bool false, .int .i64 0] 93)).drew
        have HQ := hid (HN.out rfl)
        clear HY HN
        go_wp2
        go_region
        go_wp2
        go_roundw
        case rel => exact ⟨k + 1, m, a', c', by omega, by omega, by go_num, rfl, by rw [HQ.out]; exact own2, hS2, b2⟩
        case measure => simp [intOf]; omega
      | some v =>
        simp only [Option.isSome_some, Option.getD_some] at d0 d1
        have own2 : (wr.alloc (.cells #[.bool true, .int .i64 v] 93)).drew.ownsRow w.heap.size 64 3 (.slice a' m c') m (rcells zs) := owns_below own ((Below.refl _ wr).alloc (Nat.le_refl _) (.cells #[.bool true, .int .i64 v] 93)).drew
        have hS2 : Slt (wr.alloc (.cells #[.bool true, .int .i64 v] 93)).drew p S := hS.below ((Below.refl _ wr).alloc (Nat.le_refl _) (.cells #[.bool true, .int .i64 v] 93)).drew
        have b2 := (hB.alloc hB.size (.cells #[.bool true, .int .i64 v] 93)).drew
        have HQ := hid (HY.out v rfl)
        clear HY HN
        have kQ : Below (wr.alloc (.cells #[.bool true, .int .i64 v] 93)).drew.heap.size (wr.alloc (.cells #[.bool true, .int .i64 v] 93)).drew ((wr.alloc (.cells #[.bool true, .int .i64 v] 93)).drew.alloc (.cells #[.int .i64 k, .int .i64 v, .bool false] 64)) := (Below.refl _ _).alloc (Nat.le_refl _) _
        have own3 := owns_below own2 kQ
        have hS3 := hS2.below kQ
        have b3 := b2.trans (kQ.mono b2.size)
        have hC3 := new_rowV (wr.alloc (.cells #[.bool true, .int .i64 v] 93)).drew k v false 64
        rw [show (wr.alloc (.cells #[.bool true, .int .i64 v] 93)).drew.heap.size = wr.heap.size + 1 by simp] at hC3
        have hb3 : w.heap.size ≤ ((wr.alloc (.cells #[.bool true, .int .i64 v] 93)).drew.alloc (.cells #[.int .i64 k, .int .i64 v, .bool false] 64)).heap.size := by have := hB.size; simp; omega
        have hpw : p < w.heap.size := h.lt
        go_wp2
        go_region
        go_wp2_with (at_builtin; go_must (refine wpList_appX Try.underlying27 Try.underlying27 hi0 hz0 hz1 hz2 rfl (by omega) (by omega) (.tmp 16) (.tmp 21) ?_ ?_ w.heap.size (.slice a' m c') m (rcells zs) _ 1 1 (rcells [⟨k, v, false⟩]) ?_ ?_ own3 hC3 (rcells_oneV _) (by omega) hb3 ?_; exact rfl; exact rfl; exact rfl; exact rfl; intro a5 c5 w5 own5 gr5 at5; go_frame))
        go_roundw
        case rel =>
          rw [← rcells_appendV, ← HQ.out] at own5
          exact ⟨k + 1, m + 1, a5, c5, by omega, by omega, by go_num, rfl, own5, hS3.keep gr5 (own_apartV own3 hpw), b3.grown gr5 b3.size (fun g hg => (owns_lt own3 g hg).1)⟩
        case measure => simp [intOf]; omega
    · obtain rfl : k = 100 := by omega
      go_wp2
      go_ret
      exact ⟨a', m, c', rfl, by omega, own, hB⟩
end Go.Proofs.Ytlpncikiaojmiaa


/- The law FnExactLeavesFault. -/
namespace Go.Proofs.Ytlpncikiaojmiaa
open Go.RowKit

theorem small_at {ls : List (List Ch.Row)} (hs : Ch.lvSize ls ≤ 1048576) : ∀ i, (ls.getD i []).length ≤ 9223372036854775807 := fun i => by have := Ch.lv_leaf hs i; omega

end Go.Proofs.Ytlpncikiaojmiaa


/- Marks that a law writes into leaves. -/
namespace Go.Proofs.Ytlpncikiaojmiaa
open Go.RowKit

theorem markRowS_own (s : Int) (B n : Nat) (a : Option Addr) (cap : Nat) (rs : List Ch.Row) (w : World) (hs0 : 0 < s) (hs1 : s ≤ 1099511627776) (hown : w.ownsRow B 64 3 (.slice a n cap) n (rcells rs)) (hn : n ≤ 1048579) :
    Calls Try.prog 18 #[.slice a n cap, .int .i64 s] w fun e w' => e = .returned (.int .i64 (s + 3 * n)) ∧ w'.ownsRow B 64 3 (.slice a n cap) n (rcells (rmarks s n)) ∧ w.grownBy w' (Value.slice a n cap).ownBlock := by
  rcases hown.2 with ⟨hv, h0⟩ | ⟨g, cp, cur, hv, _⟩
  · simp only [Value.slice.injEq] at hv
    obtain ⟨rfl, rfl, rfl⟩ := hv
    refine (markRowS_nil s w).mono ?_
    rintro e w1 ⟨rfl, rfl⟩
    exact ⟨by simp, World.ownsRow_nil _ _ _ _, ⟨rfl, rfl, rfl, Nat.le_refl _, fun _ _ _ => rfl⟩⟩
  · simp only [Value.slice.injEq, true_and] at hv
    obtain ⟨rfl, rfl⟩ := hv
    exact markRowS_any s B g n cap rs w hs0 hs1 hown hn

/-- The marks of leaves: each from where the one ahead ends. -/
def Ch.before (ls : List (List Ch.Row)) (k : Nat) : Nat := ((ls.take k).map List.length).sum
def lvMark (ls : List (List Ch.Row)) (k : Nat) : List Ch.Row := rmarks (1 + 3 * (Ch.before ls k : Int)) (ls.getD k []).length
def lvMarks (ls : List (List Ch.Row)) : List (List Ch.Row) := (List.range ls.length).map (lvMark ls)
def lvMarked (ls : List (List Ch.Row)) (k : Nat) : List (List Ch.Row) := (List.range k).map (lvMark ls) ++ ls.drop k
theorem lvMarked_set (ls : List (List Ch.Row)) (k : Nat) (h : k < ls.length) : (lvMarked ls k).set k (lvMark ls k) = lvMarked ls (k + 1) := by
  unfold lvMarked
  rw [Ch.set_mid _ _ _ _ (by simp) h, List.range_succ]
  simp
theorem lvMarked_at (ls : List (List Ch.Row)) (k : Nat) : (lvMarked ls k).getD k [] = ls.getD k [] := by
  unfold lvMarked
  rw [List.getD, List.getElem?_append_right (by simp)]
  simp [List.getD]
theorem Ch.before_next (ls : List (List Ch.Row)) (k : Nat) (h : k < ls.length) : Ch.before ls (k + 1) = Ch.before ls k + (ls.getD k []).length := Ch.lv_take ls k h
theorem Ch.before_small {ls : List (List Ch.Row)} (hs : Ch.lvSize ls ≤ 1048576) (k : Nat) : Ch.before ls k ≤ 1048576 := by
  have := Ch.lv_le ls k
  unfold Ch.lvSize at hs
  unfold Ch.before
  omega

end Go.Proofs.Ytlpncikiaojmiaa


/- Copies of rows and of leaves: the program's cloneLeaves. -/
namespace Go.Proofs.Ytlpncikiaojmiaa
open Go.RowKit

end Go.Proofs.Ytlpncikiaojmiaa


/- The library's Delete at rows and at leaves: one element. -/
namespace Go.Proofs.Ytlpncikiaojmiaa
open Go.RowKit

theorem owns_setCells {base : Nat} {e : TypeId} {size g n cap : Nat} (news : List Value) : ∀ (j : Nat) (xs : List Value) (w : World), w.ownsRow base e size (.slice (some ⟨g, 0, none⟩) n cap) n xs → j + news.length ≤ xs.length →
    (w.setCells g j news).ownsRow base e size (.slice (some ⟨g, 0, none⟩) n cap) n (xs.take j ++ news ++ xs.drop (j + news.length)) ∧ w.grownBy (w.setCells g j news) (some g) := by
  induction news with
  | nil => intro j xs w h _; exact ⟨by simpa [World.setCells] using h, ⟨rfl, rfl, rfl, Nat.le_refl _, fun _ _ _ => rfl⟩⟩
  | cons u news ih =>
    intro j xs w h hj
    simp only [List.length_cons] at hj
    have hs := h.stored j u
    have ⟨h2, h3⟩ := ih (j + 1) _ _ hs.1 (by simp; omega)
    refine ⟨?_, gr_trans hs.2 h3⟩
    have e : (xs.set j u).take (j + 1) ++ news ++ (xs.set j u).drop (j + 1 + news.length) = xs.take j ++ u :: news ++ xs.drop (j + (news.length + 1)) := by
      rw [List.drop_set, if_pos (by omega), Ch.take_snoc _ u j (by simp; omega), List.take_set]
      rw [List.set_eq_of_length_le (by simp; omega)]
      have : (xs.set j u).getD j u = u := by simp [List.getD, show j < xs.length by omega]
      rw [this, show j + 1 + news.length = j + (news.length + 1) by omega]
      simp
    simp only [World.setCells, List.length_cons]
    rw [← e]
    exact h2
theorem owns_shrink {w : World} {base : Nat} {e : TypeId} {size g n cap m : Nat} {xs : List Value} (h : w.ownsRow base e size (.slice (some ⟨g, 0, none⟩) n cap) n xs) (hm : m ≤ n) : w.ownsRow base e size (.slice (some ⟨g, 0, none⟩) m cap) m (xs.take (m * size)) := by
  rcases h.2 with ⟨hv, _⟩ | ⟨g', cp, cur, hv, hb, hh, h1, h2, h3, h4⟩
  · simp at hv
  · simp only [Value.slice.injEq, Option.some.injEq, Addr.mk.injEq, and_true, true_and] at hv
    obtain ⟨rfl, rfl⟩ := hv
    have hle : m * size ≤ n * size := Nat.mul_le_mul_right _ hm
    refine ⟨by rw [List.length_take, h.1]; omega, .inr ⟨g, cap, cur, rfl, hb, hh, by omega, h2, h3, ?_⟩⟩
    rw [← h4, List.take_take, Nat.min_eq_left hle]

theorem clearR (w : World) (ty b o c : Nat) (hc : ∀ j, j < 3 → (w.cell? ⟨b, o + j, none⟩).isSome = true) (hf : ∀ j, j < 3 → w.frozen? ⟨b, o + j, none⟩ = false) :
    (Builtin.clear_ #[27] ty #[.slice (some ⟨b, o, none⟩) 1 c]).run Try.prog w = .ok (.tuple #[]) (w.setCells b o [.int .i64 0, .int .i64 0, .bool false]) := by
  have hv : ∀ W, (zeroValue 64).run Try.prog W = .ok (.agg #[.int .i64 0, .int .i64 0, .bool false]) W := fun _ => by kernel_rfl
  have hzc : (Builtin.zeroCells (Value.cells (.agg #[.int .i64 0, .int .i64 0, .bool false])) 1).toList = [.int .i64 0, .int .i64 0, .bool false] := by kernel_rfl
  have hst := run_storeCells_cells (P := Try.prog) b o [.int .i64 0, .int .i64 0, .bool false] 0 w (by simpa using hc) (by simpa using hf) (by decide)
  simp only [Nat.add_zero] at hst
  simp [Builtin.clear_, run_underlying Try.underlying27, hv, hzc, hst]

end Go.Proofs.Ytlpncikiaojmiaa


/- The library's Insert at rows and at leaves: one element. -/
namespace Go.Proofs.Ytlpncikiaojmiaa
open Go.RowKit

theorem owns_capN {w : World} {base : Nat} {e : TypeId} {size g n cap : Nat} {xs : List Value} (h : w.ownsRow base e size (.slice (some ⟨g, 0, none⟩) n cap) n xs) : n ≤ cap ∧ cap ≤ 9223372036854775807 := by
  rcases h.2 with ⟨hv, _⟩ | ⟨g', cp, cur, hv, hb, hh, h1, h2, _⟩
  · simp at hv
  · simp only [Value.slice.injEq] at hv
    obtain ⟨_, _, rfl⟩ := hv
    exact ⟨h1, by unfold maxLen at h2; exact h2⟩
theorem insert_cells (xs ys zs : List Value) (a b s : Nat) (hb : b = a + s) (hy : ys.length = s) (hz : zs.length = s) (hl : b ≤ xs.length) :
    (((xs ++ zs).take b ++ xs.drop a ++ (xs ++ zs).drop (b + (xs.drop a).length)).take a ++ ys ++ ((xs ++ zs).take b ++ xs.drop a ++ (xs ++ zs).drop (b + (xs.drop a).length)).drop (a + ys.length)) = xs.take a ++ ys ++ xs.drop a := by
  have hT : ((xs ++ zs).take b).length = b := by rw [List.length_take, List.length_append]; omega
  have hD : (xs ++ zs).drop (b + (xs.drop a).length) = [] := List.drop_of_length_le (by rw [List.length_append, List.length_drop]; omega)
  rw [hD, List.append_nil, List.take_append_of_le_length (by omega), List.take_take, Nat.min_eq_left (by omega), List.take_append_of_le_length (by omega), hy, ← hb, List.drop_append_of_le_length (by omega), List.drop_of_length_le (by omega), List.nil_append]
theorem owns_extend {w : World} {base : Nat} {e : TypeId} {size g n cap : Nat} {xs : List Value} (h : w.ownsRow base e size (.slice (some ⟨g, 0, none⟩) n cap) n xs) (hc : n + 1 ≤ cap) : ∃ zs : List Value, zs.length = size ∧ w.ownsRow base e size (.slice (some ⟨g, 0, none⟩) (n + 1) cap) (n + 1) (xs ++ zs) := by
  have hx := h.1
  rcases h.2 with ⟨hv, _⟩ | ⟨g', cp, cur, hv, hb, hh, h1, h2, h3, h4⟩
  · simp at hv
  · simp only [Value.slice.injEq, Option.some.injEq, Addr.mk.injEq, and_true, true_and] at hv
    obtain ⟨rfl, rfl⟩ := hv
    have hm : (n + 1) * size ≤ cap * size := Nat.mul_le_mul_right _ hc
    have hm2 : (n + 1) * size = n * size + size := by rw [Nat.add_mul, Nat.one_mul]
    refine ⟨(cur.toList.drop (n * size)).take size, by simp; omega, ?_, .inr ⟨g, cap, cur, rfl, hb, hh, hc, h2, h3, ?_⟩⟩
    · simp; omega
    · rw [hm2, List.take_add, h4]
/-- A copy whose run is known. -/
theorem wp_copyR {P : Program} (w : World) {o : Oper} {a : Act} {K : Act → World → Prop} {Q : Exit → Act → World → Prop} (d s : Operand) (t t' : TypeId)
    (ho : o.op = .call { callee := .builtin .copy, args := #[d, s], argTypes := #[t, t'] }) (v u : Value) (hd : a.eval d = v) (hs : a.eval s = u) {x : Value} {w' : World}
    (hr : (Builtin.copy_ #[t, t'] o.type #[v, u]).run P w = .ok x w') (hK : K (a.put o.dst x) w') : o.wp P a w K Q := by
  unfold Oper.wp
  simp [execOp, ho, resolve, invoke, builtin, hd, hs, hr, Result.andThen]
  exact hK
theorem wpList_copyR {P : Program} (w : World) {ops : Array Oper} {rest : List Oper} {o : Oper} {a : Act} {Q : Exit → Act → World → Prop} (hg : o.guard = none) (d s : Operand) (t t' : TypeId)
    (ho : o.op = .call { callee := .builtin .copy, args := #[d, s], argTypes := #[t, t'] }) (v u : Value) (hd : a.eval d = v) (hs : a.eval s = u) {x : Value} {w' : World}
    (hr : (Builtin.copy_ #[t, t'] o.type #[v, u]).run P w = .ok x w') (hK : wpList P ops Q rest (a.put o.dst x) w') : wpList P ops Q (o :: rest) a w :=
  wpList_plain hg fun _ h => wp_copyR w d s t t' ho v u hd hs hr (h _ _ hK)
theorem step_copyR {P : Program} {ops : Array Oper} {o : Oper} {a : Act} {w : World} {K : Act → World → Prop} {Q : Exit → Act → World → Prop} {E : Prop} (hg : o.guard = none) (d s : Operand) (t t' : TypeId)
    (ho : o.op = .call { callee := .builtin .copy, args := #[d, s], argTypes := #[t, t'] }) (v u : Value) (hd : a.eval d = v) (hs : a.eval s = u) {x : Value} {w' : World}
    (hr : (Builtin.copy_ #[t, t'] o.type #[v, u]).run P w = .ok x w') (hK : K (a.put o.dst x) w') : if Region.wanted o (yielded ops a.tmps) = true then Oper.wp P o a w K Q else E := by
  have hw : Region.wanted o (yielded ops a.tmps) = true := by simp [Region.wanted, hg]
  rw [if_pos hw]
  exact wp_copyR w d s t t' ho v u hd hs hr hK
theorem run_copyS {P : Program} (w : World) (dT sT ty elem : TypeId) (b o dLen dCap : Nat) (a : Addr) (sLen sCap size k : Nat) (cs : List Value) (i : TypeInfo)
    (hu : P.underlying dT = some (.slice elem)) (hi : P.info? elem = some i) (hs : i.size = size) (hk : Nat.min sLen dLen = k) (hn : cs.length = k * size)
    (hsrc : ∀ j v, cs[j]? = some v → w.cell? (a.add j) = some v) (hc : ∀ j, j < cs.length → (w.cell? ⟨b, o + j, none⟩).isSome = true) (hf : ∀ j, j < cs.length → w.frozen? ⟨b, o + j, none⟩ = false) (h1 : ∀ v ∈ cs, v.oneCell' = true) :
    (Builtin.copy_ #[dT, sT] ty #[.slice (some ⟨b, o, none⟩) dLen dCap, .slice (some a) sLen sCap]).run P w = .ok (goInt k) (w.setCells b o cs) := by
  have hl := run_loadCells_list (P := P) w a cs hsrc
  have hst := run_storeCells_cells (P := P) b o cs 0 w (by simpa using hc) (by simpa using hf) h1
  subst hk
  simp [Builtin.copy_, run_underlying hu, Builtin.lenOf, Builtin.firstCells, sizeOf, typeInfo, hi, hs, ← hn, hl, hst]

end Go.Proofs.Ytlpncikiaojmiaa


/- The library's Insert at rows and at leaves: one element, where a new array is made; and all ways as one. -/
namespace Go.Proofs.Ytlpncikiaojmiaa
open Go.RowKit

theorem heap_newI {w : World} {o : Obj} {n : Nat} (h : n = w.heap.size) : (w.alloc o).heap[n]? = some o := by
  subst h; exact heap_alloc_new w o
theorem insert_cells2 (xs ys zs : List Value) (a b s : Nat) (hb : b = a + s) (hy : ys.length = s) (hz : a + zs.length = xs.length + s) (hl : b ≤ xs.length) :
    (((xs.take a ++ zs).take a ++ ys ++ (xs.take a ++ zs).drop (a + ys.length)).take b ++ xs.drop a ++ ((xs.take a ++ zs).take a ++ ys ++ (xs.take a ++ zs).drop (a + ys.length)).drop (b + (xs.drop a).length)) = xs.take a ++ ys ++ xs.drop a := by
  have hT : (xs.take a).length = a := by rw [List.length_take]; omega
  have h1 : (xs.take a ++ zs).take a = xs.take a := by rw [List.take_append_of_le_length (by omega), List.take_of_length_le (by omega)]
  have hD : ∀ us : List Value, us.length = xs.length + s → us.drop (b + (xs.drop a).length) = [] := fun us h => List.drop_of_length_le (by rw [List.length_drop]; omega)
  rw [h1, hD _ (by simp only [List.length_append, List.length_drop, hT]; omega), List.append_nil, List.take_append_of_le_length (by rw [List.length_append]; omega), List.take_of_length_le (by rw [List.length_append]; omega)]

theorem grow_oneR (B g n cap i : Nat) (xs : List Value) (w : World) (ty : TypeId) (hown : w.ownsRow B 64 3 (.slice (some ⟨g, 0, none⟩) n cap) n xs) (hn : n ≤ 1048576) (hi : i < n) (hroom : cap < n + 1) (hB : B ≤ w.heap.size) :
    ∃ C W0 zs, (Builtin.append_ #[27, 3] ty #[.slice (some ⟨g, 0, none⟩) i cap, .int .i64 ((n : Int) + 1 - i)]).run Try.prog w = .ok (.slice (some ⟨w.heap.size, 0, none⟩) (n + 1) C) W0 ∧ n + 1 ≤ C ∧ List.length zs = (n + 1 - i) * 3 ∧ W0.ownsRow B 64 3 (.slice (some ⟨w.heap.size, 0, none⟩) (n + 1) C) (n + 1) (xs.take (i * 3) ++ zs) ∧ Below w.heap.size w W0 := by
  obtain ⟨i0, hi0, hz0, hz1, hz2⟩ := info_parts Try.info64
  have hcap := owns_capN hown
  have hx := hown.1
  have hik : i + (n + 1 - i) = n + 1 := by omega
  have hz' : ((n : Int) + 1 - i) = ((n + 1 - i : Nat) : Int) := by omega
  have hlt : (xs.take (i * 3)).length = i * 3 := by rw [List.length_take]; omega
  have hold : (Builtin.firstCells i0.size i (.slice (some ⟨g, 0, none⟩) i cap)).run Try.prog w.drew = .ok (xs.take (i * 3)).toArray w.drew := by
    have oD : w.drew.ownsRow B 64 3 (.slice (some ⟨g, 0, none⟩) n cap) n xs := hown
    have hl := run_loadCells_list (P := Try.prog) w.drew ⟨g, 0, none⟩ (xs.take (i * 3)) (fun j v hj => by
      have hjl := (List.getElem?_eq_some_iff.1 hj).1
      rw [Addr.add_lit, Nat.zero_add, oD.cellAt _ (by omega)]
      rw [List.getElem?_take] at hj
      split at hj
      · exact hj
      · simp at hj)
    rw [hlt] at hl
    simp only [Builtin.firstCells, hz1]
    exact hl
  have hrun := Lib.run_append_grow_zeros (P := Try.prog) w 27 3 ty 64 i0 (.agg #[.int .i64 0, .int .i64 0, .bool false]) .i64 .i64 Try.underlying27 Try.underlying3 hi0 hz0 (some ⟨g, 0, none⟩) i cap (xs.take (i * 3)) hold (n + 1 - i) (by omega) (by omega) (by omega) (by omega) (by rw [hz2]; omega) (by rw [hz2, hik]; exact growslice_fits (by omega) (by omega))
  rw [hik] at hrun
  rw [hz']
  have hge := grownCap_ge w (n + 1) cap 64
  have hle := grownCap_le_maxLen w (n + 1) cap 64 (by unfold maxLen; omega)
  generalize grownCap w (n + 1) cap 64 = C at hrun hge hle
  have hzc : ∀ q, (Builtin.zeroCells (Value.cells (.agg #[.int .i64 0, .int .i64 0, .bool false])) q).size = q * 3 := fun q => by simp [Builtin.zeroCells, Value.cells]
  have hzt : (Builtin.zeroCells (Value.cells (.agg #[.int .i64 0, .int .i64 0, .bool false])) (n + 1 - i)).toList.length = (n + 1 - i) * 3 := by rw [Array.length_toList, hzc]
  refine ⟨C, _, (Builtin.zeroCells (Value.cells (.agg #[.int .i64 0, .int .i64 0, .bool false])) (n + 1 - i)).toList, hrun, hge, hzt, ⟨?_, .inr ⟨w.heap.size, C, _, rfl, hB, heap_newI (by simp), hge, hle, ?_, ?_⟩⟩, ((Below.refl _ _).drew).alloc (by simp) _⟩
  · rw [List.length_append, hlt, hzt]; omega
  · rw [Array.size_append, Array.size_append, hzc, hzc, List.size_toArray, hlt]; omega
  · have e0 : ((xs.take (i * 3)).toArray ++ Builtin.zeroCells (Value.cells (.agg #[.int .i64 0, .int .i64 0, .bool false])) (n + 1 - i) ++ Builtin.zeroCells (Value.cells (.agg #[.int .i64 0, .int .i64 0, .bool false])) (C - (n + 1))).toList = (xs.take (i * 3) ++ (Builtin.zeroCells (Value.cells (.agg #[.int .i64 0, .int .i64 0, .bool false])) (n + 1 - i)).toList) ++ (Builtin.zeroCells (Value.cells (.agg #[.int .i64 0, .int .i64 0, .bool false])) (C - (n + 1))).toList := by simp only [Array.toList_append]
    rw [e0, List.take_append_of_le_length (by rw [List.length_append, hlt, hzt]; omega), List.take_of_length_le (by rw [List.length_append, hlt, hzt]; omega)]

end Go.Proofs.Ytlpncikiaojmiaa


/- The map of places by key. -/
namespace Go.Proofs.Ytlpncikiaojmiaa
open Go.RowKit Go.Maps

/-- How a place reads. -/
def plElem (v : Value) : Option (DataW Unit × List MemPlace) :=
  match v with
  | .agg a => match a.toList with
    | [.int .i64 l, .int .i64 t] => some (.agg [.lit (.int .i64 l), .lit (.int .i64 t)], [])
    | _ => none
  | _ => none
def kk (key : Int) : Lit := .int .i64 key
def pl (i j : Nat) : DataW Unit := .agg [.lit (.int .i64 i), .lit (.int .i64 j)]
theorem plElem_mk (l t : Int) : plElem (.agg #[.int .i64 l, .int .i64 t]) = some (.agg [.lit (.int .i64 l), .lit (.int .i64 t)], []) := rfl
theorem plElem_inv {v : Value} {l t : Int} {ps : List MemPlace} (h : plElem v = some (.agg [.lit (.int .i64 l), .lit (.int .i64 t)], ps)) : v = .agg #[.int .i64 l, .int .i64 t] := by
  unfold plElem at h
  split at h
  · rename_i a
    split at h
    · rename_i l' t' he
      simp at h
      obtain ⟨⟨rfl, rfl⟩, _⟩ := h
      have : a = #[.int .i64 l', .int .i64 t'] := by
        cases a
        simpa using he
      rw [this]
    · simp at h
  · simp at h
theorem Try.keyed : Keyed Try.prog 2 := int_keyed Try.underlying2
theorem kk_key {key : Int} (h0 : 0 ≤ key) (h1 : key ≤ 99) : keyOf Try.prog 2 (.int .i64 key) = some (kk key) := keyOf_int_mk Try.underlying2 (WalkArith.wf_i64 (by omega))
theorem kk_isKey (key : Int) : WideAt.IsKeyLit (kk key) := by unfold kk; simp [WideAt.IsKeyLit]
theorem kk_ne {a b : Int} (h : a ≠ b) : kk a ≠ kk b := by unfold kk; simpa using h

/-- What the map holds ahead of the row m of the leaf k. -/
structure Pl (ls : List (List Ch.Row)) (D : DataW Unit) (k m : Nat) : Prop where
  yes : ∀ i j, (i < k ∨ i = k ∧ j < m) → i < ls.length → j < (ls.getD i []).length → Maps.has D (kk (Ch.keyAt ls i j)) = true ∧ ∀ z, D.atKey (kk (Ch.keyAt ls i j)) z = pl i j
  no : ∀ key, Maps.has D (kk key) = true → ∃ i j, i < ls.length ∧ j < (ls.getD i []).length ∧ Ch.keyAt ls i j = key

theorem Pl.empty (ls : List (List Ch.Row)) : Pl ls (.map []) 0 0 := by
  refine ⟨fun i j h => ?_, fun key h => ?_⟩
  · omega
  · simp [Maps.has] at h
theorem Pl.leaf {ls : List (List Ch.Row)} {D : DataW Unit} {k m : Nat} (h : Pl ls D k m) (hm : (ls.getD k []).length ≤ m) : Pl ls D (k + 1) 0 := by
  refine ⟨fun i j hij hi hj => h.yes i j ?_ hi hj, h.no⟩
  by_cases hik : i = k
  · subst hik; right; exact ⟨rfl, by omega⟩
  · left; omega
theorem Pl.put {ls : List (List Ch.Row)} {D : DataW Unit} {k m : Nat} (h : Pl ls D k m) (hg : Ch.leavesFault ls = 0) (hk : k < ls.length) (hm : m < (ls.getD k []).length) (hD : IsMap D) : Pl ls (D.put (kk (Ch.keyAt ls k m)) (pl k m)) k (m + 1) := by
  refine ⟨fun i j hij hi hj => ?_, fun key hkey => ?_⟩
  · by_cases he : i = k ∧ j = m
    · obtain ⟨rfl, rfl⟩ := he
      exact ⟨has_put_same hD (kk_isKey _) _, fun z => atKey_put_same hD (kk_isKey _) _ z⟩
    · have hne : Ch.keyAt ls i j ≠ Ch.keyAt ls k m := fun e => he (Ch.keys_apart hg hi hj hk hm e)
      have := h.yes i j (by omega) hi hj
      exact ⟨by rw [has_put_other (kk_ne hne)]; exact this.1, fun z => by rw [atKey_put_other (kk_ne hne)]; exact this.2 z⟩
  · by_cases he : key = Ch.keyAt ls k m
    · exact ⟨k, m, hk, hm, he.symm⟩
    · rw [has_put_other (kk_ne he)] at hkey
      exact h.no key hkey

end Go.Proofs.Ytlpncikiaojmiaa


/- LeafFor of the program, and the law. -/
namespace Go.Proofs.Ytlpncikiaojmiaa
open Go.RowKit

theorem one_key {w : World} {o : Obj} {key : Int} {t : TypeId} : CellsAt ((w.alloc o).alloc (.cells #[.int .i64 key] t)) (some ⟨w.heap.size + 1, 0, none⟩) 1 (kts [key]) := by
  refine ⟨rfl, fun _ => ⟨_, _, rfl, fun i hi => ?_⟩⟩
  obtain rfl : i = 0 := by omega
  rw [show w.heap.size + 1 = (w.alloc o).heap.size by simp]
  exact cell_of_row _ _ _ _ _ _ (heap_alloc_new (w.alloc o) _)

end Go.Proofs.Ytlpncikiaojmiaa

