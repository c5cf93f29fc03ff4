
/- Plain locks: no Go in it. -/
import Derived.Test.YtalhmogaogaekaaDoorMath
import Derived.Test.YtalhmogaogaekaaDoorModM
namespace Go.Proofs.YtalhmogaogaekaaDoor.Ch
structure Hold where
  t : Int
  m : Int
def Hold.zero : Hold := ⟨0, 0⟩
structure Lock where
  r : Int
  hs : List Hold
  qs : List Hold
def Lock.zero : Lock := ⟨0, [], []⟩

theorem all_false {α : Type} {l : List α} {p : α → Bool} (d : α) {k : Nat} (hk : k < l.length) (h : p (l.getD k d) = false) : l.all p = false := by
  have hm : l.getD k d ∈ l := by simp [List.getD, hk]
  cases hh : l.all p
  · rfl
  · have := List.all_eq_true.1 hh _ hm
    rw [h] at this; cases this
theorem any_true {α : Type} {l : List α} {p : α → Bool} (d : α) {k : Nat} (hk : k < l.length) (h : p (l.getD k d) = true) : l.any p = true := by
  have hm : l.getD k d ∈ l := by simp [List.getD, hk]
  exact List.any_eq_true.2 ⟨_, hm, h⟩
theorem all_snoc {α : Type} {l : List α} {p : α → Bool} (d : α) {k : Nat} (hk : k < l.length) (h : (l.take k).all p = true) (h2 : p (l.getD k d) = true) : (l.take (k + 1)).all p = true := by
  rw [take_snoc l d k hk, List.all_append, h]; simp only [List.all_cons, List.all_nil, h2]; rfl
theorem any_snoc {α : Type} {l : List α} {p : α → Bool} (d : α) {k : Nat} (hk : k < l.length) (h : (l.take k).any p = false) (h2 : p (l.getD k d) = false) : (l.take (k + 1)).any p = false := by
  rw [take_snoc l d k hk, List.any_append, h]; simp only [List.any_cons, List.any_nil, h2]; rfl
theorem all_at {α : Type} {l : List α} {p : α → Bool} (d : α) (h : l.all p = true) {k : Nat} (hk : k < l.length) : p (l.getD k d) = true := by
  have hm : l.getD k d ∈ l := by simp [List.getD, hk]
  exact List.all_eq_true.1 h _ hm

/-- Is a transaction among them? -/
def hasH (l : List Hold) (t : Int) : Bool := l.any fun h => h.t == t
/-- Its place; -1: it has none. -/
def atH (l : List Hold) (t : Int) : Int := match l.findIdx? (fun h => h.t == t) with
  | some i => i
  | none => -1
/-- Its mode; 0: it has none. -/
def modeH (l : List Hold) (t : Int) : Int := if hasH l t then (l.getD (atH l t).toNat Hold.zero).m else 0
theorem hasH_nil (t : Int) : hasH [] t = false := rfl
theorem hasH_take {l : List Hold} {t : Int} {k : Nat} (h : hasH l t = false) : hasH (l.take k) t = false := by
  unfold hasH at *
  rw [List.any_eq_false] at *
  intro x hx
  exact h x (List.mem_of_mem_take hx)
theorem atH_none {l : List Hold} {t : Int} (h : hasH l t = false) : atH l t = -1 := by
  unfold atH
  have : l.findIdx? (fun h => h.t == t) = none := by
    rw [List.findIdx?_eq_none_iff]
    unfold hasH at h
    rw [List.any_eq_false] at h
    intro x hx
    simpa using h x hx
  rw [this]
theorem atH_some {l : List Hold} {t : Int} {k : Nat} (hk : k < l.length) (h : hasH (l.take k) t = false) (he : (l.getD k Hold.zero).t = t) : atH l t = k ∧ hasH l t = true := by
  have h2 : hasH l t = true := any_true Hold.zero hk (by simp only [he]; simp)
  refine ⟨?_, h2⟩
  unfold atH
  have e1 : l[k] = l.getD k Hold.zero := by simp [List.getD, hk]
  have : l.findIdx? (fun h => h.t == t) = some k := by
    rw [List.findIdx?_eq_some_iff_getElem]
    refine ⟨hk, by rw [e1, he]; simp, fun j hj => ?_⟩
    unfold hasH at h
    rw [List.any_eq_false] at h
    have hm : l[j] ∈ l.take k := by
      rw [List.mem_take_iff_getElem]
      exact ⟨j, by omega, rfl⟩
    simpa using h _ hm
  rw [this]
theorem atH_cases (l : List Hold) (t : Int) : (hasH l t = false ∧ atH l t = -1 ∧ modeH l t = 0) ∨ ∃ k, k < l.length ∧ atH l t = (k : Int) ∧ hasH l t = true ∧ (l.getD k Hold.zero).t = t ∧ modeH l t = (l.getD k Hold.zero).m := by
  cases h : hasH l t
  · exact .inl ⟨rfl, atH_none h, by unfold modeH; rw [h]; rfl⟩
  · right
    cases hf : l.findIdx? (fun h => h.t == t) with
    | none =>
      exfalso
      rw [List.findIdx?_eq_none_iff] at hf
      unfold hasH at h
      rw [List.any_eq_true] at h
      obtain ⟨x, hx, hxt⟩ := h
      have := hf x hx
      simp_all
    | some k =>
      have ha : atH l t = (k : Int) := by unfold atH; rw [hf]
      rw [List.findIdx?_eq_some_iff_getElem] at hf
      obtain ⟨hk, he, _⟩ := hf
      refine ⟨k, hk, ha, rfl, by simpa [List.getD, hk] using he, ?_⟩
      unfold modeH
      rw [h, ha]
      simp

/-- Do all others fit with a mode of a transaction? -/
def fitsH (l : List Hold) (t m : Int) : Bool := l.all fun h => h.t == t || fits h.m m
def nameH (h : Hold) : Bool := inB h.t 1 999 && inB h.m 1 5
def namesH (l : List Hold) : Bool := l.all nameH
def nameC (l : List Hold) : Int := if namesH l then 0 else 3
theorem nameC_ok {l : List Hold} (h : namesH l = true) : nameC l = 0 := by unfold nameC; rw [h]; rfl
theorem nameC_bad {l : List Hold} (h : namesH l = false) : nameC l = 3 := by unfold nameC; rw [h]; rfl
def allFit' (l : List Hold) : Bool := l.all fun h => fitsH l h.t h.m
theorem name_mode {h : Hold} (hn : nameH h = true) : isM h.m = true ∧ 1 ≤ h.m ∧ h.m ≤ 5 ∧ 1 ≤ h.t ∧ h.t ≤ 999 := by
  unfold nameH inB at hn
  unfold isM inB
  simp at hn ⊢
  omega
theorem names_at {l : List Hold} (h : namesH l = true) {k : Nat} (hk : k < l.length) : nameH (l.getD k Hold.zero) = true := all_at Hold.zero h hk
theorem modeH_names {l : List Hold} (h : namesH l = true) (t : Int) : isM (modeH l t) = true ∧ (modeH l t != 0) = hasH l t := by
  rcases atH_cases l t with ⟨h1, h2, h3⟩ | ⟨k, hk, h1, h2, h3, h4⟩
  · rw [h1, h3]; exact ⟨rfl, rfl⟩
  · have := name_mode (names_at h hk)
    rw [h4, h2]
    refine ⟨this.1, ?_⟩
    have hne : (l.getD k Hold.zero).m ≠ 0 := by omega
    simpa using hne

/-- Some transaction stands twice in the first k. -/
def twiceAt (l : List Hold) : Nat → Bool
  | 0 => false
  | k + 1 => twiceAt l k || hasH (l.take k) (l.getD k Hold.zero).t
def twice (l : List Hold) : Bool := twiceAt l l.length
theorem twiceAt_mono {l : List Hold} {k j : Nat} (h : twiceAt l k = true) (hj : k ≤ j) : twiceAt l j = true := by
  induction j with
  | zero => obtain rfl : k = 0 := by omega
            exact h
  | succ j ih =>
    by_cases hk : k = j + 1
    · subst hk; exact h
    · unfold twiceAt; rw [ih (by omega)]; rfl
theorem twice_hit {l : List Hold} {k : Nat} (hk : k < l.length) (h : hasH (l.take k) (l.getD k Hold.zero).t = true) : twice l = true := by
  refine twiceAt_mono (k := k + 1) ?_ hk
  unfold twiceAt; rw [h]; simp
theorem twiceAt_next {l : List Hold} {k : Nat} (h1 : twiceAt l k = false) (h : hasH (l.take k) (l.getD k Hold.zero).t = false) : twiceAt l (k + 1) = false := by
  unfold twiceAt; rw [h, h1]; rfl
/-- How many transactions there are in the first k. -/
def cntAt (l : List Hold) : Nat → Nat
  | 0 => 0
  | k + 1 => if hasH (l.take k) (l.getD k Hold.zero).t then cntAt l k else cntAt l k + 1
theorem cnt_twice (l : List Hold) (k : Nat) : cntAt l k ≤ k ∧ decide (cntAt l k < k) = twiceAt l k := by
  induction k with
  | zero => exact ⟨Nat.le_refl _, rfl⟩
  | succ k ih =>
    obtain ⟨h1, h2⟩ := ih
    unfold cntAt twiceAt
    rw [← h2]
    cases hasH (l.take k) (l.getD k Hold.zero).t
    · refine ⟨by simp; omega, ?_⟩
      simp
    · refine ⟨by simp; omega, ?_⟩
      simp; omega
theorem twiceAt_pair (l : List Hold) (k : Nat) (hk : k ≤ l.length) : twiceAt l k = false ↔ (l.take k).Pairwise fun a b => a.t ≠ b.t := by
  induction k with
  | zero => simp [twiceAt]
  | succ k ih =>
    rw [take_snoc l Hold.zero k (by omega), List.pairwise_append]
    unfold twiceAt
    rw [Bool.or_eq_false_iff, ih (by omega)]
    unfold hasH
    rw [List.any_eq_false]
    simp
theorem twice_pair (l : List Hold) : twice l = false ↔ l.Pairwise fun a b => a.t ≠ b.t := by
  have := twiceAt_pair l l.length (Nat.le_refl _)
  rwa [List.take_length] at this

/-- How many at the head of the queue convert. -/
def convH (hs : List Hold) : List Hold → Nat
  | [] => 0
  | q :: qs => if hasH hs q.t then convH hs qs + 1 else 0
theorem conv_le (hs qs : List Hold) : convH hs qs ≤ qs.length := by
  induction qs with
  | nil => exact Nat.le_refl _
  | cons q qs ih => unfold convH; split <;> simp <;> omega
theorem conv_lt (hs qs : List Hold) {k : Nat} (hk : k < convH hs qs) : hasH hs (qs.getD k Hold.zero).t = true := by
  induction qs generalizing k with
  | nil => simp [convH] at hk
  | cons q qs ih =>
    unfold convH at hk
    split at hk
    · cases k with
      | zero => simpa using ‹_›
      | succ k => simpa using ih (by omega)
    · omega
theorem conv_at (hs qs : List Hold) (hk : convH hs qs < qs.length) : hasH hs (qs.getD (convH hs qs) Hold.zero).t = false := by
  induction qs with
  | nil => simp at hk
  | cons q qs ih =>
    unfold convH at hk ⊢
    split
    · next h =>
      rw [if_pos h] at hk
      simpa using ih (by simpa using hk)
    · next h => simpa using h
theorem conv_is {hs qs : List Hold} {k : Nat} (hk : k ≤ qs.length) (h1 : ∀ j, j < k → hasH hs (qs.getD j Hold.zero).t = true) (h2 : k < qs.length → hasH hs (qs.getD k Hold.zero).t = false) : convH hs qs = k := by
  rcases Nat.lt_trichotomy (convH hs qs) k with h | h | h
  · have := h1 _ h
    rw [conv_at hs qs (by omega)] at this; cases this
  · exact h
  · have := conv_lt hs qs h
    have hl := conv_le hs qs
    rw [h2 (by omega)] at this; cases this

/-- Stands the i-th of the queue right? -/
def qStep (hs qs : List Hold) (i : Nat) : Bool :=
  if hasH hs (qs.getD i Hold.zero).t then decide (i < convH hs qs) && ((qs.getD i Hold.zero).m != modeH hs (qs.getD i Hold.zero).t && covers (qs.getD i Hold.zero).m (modeH hs (qs.getD i Hold.zero).t)) else true
def qOk (hs qs : List Hold) : Bool := (List.range qs.length).all (qStep hs qs)
theorem range_all {n : Nat} {p : Nat → Bool} : (List.range n).all p = true ↔ ∀ i, i < n → p i = true := by
  rw [List.all_eq_true]; simp
theorem qOk_false {hs qs : List Hold} {i : Nat} (hi : i < qs.length) (h : qStep hs qs i = false) : qOk hs qs = false := by
  cases hh : qOk hs qs
  · rfl
  · unfold qOk at hh
    rw [range_all] at hh
    have := hh i hi
    rw [h] at this; cases this
theorem qOk_true {hs qs : List Hold} (h : ∀ i, i < qs.length → qStep hs qs i = true) : qOk hs qs = true := range_all.2 h

theorem conv_no {hs qs : List Hold} {k : Nat} (h : hasH hs (qs.getD k Hold.zero).t = false) : convH hs qs ≤ k := by
  rcases Nat.lt_or_ge k (convH hs qs) with h1 | h1
  · rw [conv_lt hs qs h1] at h; cases h
  · exact h1
theorem conv_yes {hs qs : List Hold} {k : Nat} (hk : k < qs.length) (h : hasH hs (qs.getD k Hold.zero).t = true) (hc : k ≤ convH hs qs) : k < convH hs qs := by
  rcases Nat.lt_or_ge k (convH hs qs) with h1 | h1
  · exact h1
  · obtain rfl : k = convH hs qs := by omega
    rw [conv_at hs qs hk] at h; cases h
theorem qStep_no {hs qs : List Hold} {k : Nat} (h : hasH hs (qs.getD k Hold.zero).t = false) : qStep hs qs k = true := by
  unfold qStep; rw [h]; rfl
theorem qStep_late {hs qs : List Hold} {k : Nat} (h : hasH hs (qs.getD k Hold.zero).t = true) (hc : convH hs qs ≤ k) : qStep hs qs k = false := by
  unfold qStep; rw [h]; simp; intro h2; omega
theorem qStep_same {hs qs : List Hold} {k : Nat} (h : hasH hs (qs.getD k Hold.zero).t = true) (he : (qs.getD k Hold.zero).m = modeH hs (qs.getD k Hold.zero).t) : qStep hs qs k = false := by
  unfold qStep; rw [h, ← he]; simp
theorem qStep_cov {hs qs : List Hold} {k : Nat} (h : hasH hs (qs.getD k Hold.zero).t = true) (he : covers (qs.getD k Hold.zero).m (modeH hs (qs.getD k Hold.zero).t) = false) : qStep hs qs k = false := by
  unfold qStep; rw [h, he]; simp
theorem qStep_ok {hs qs : List Hold} {k : Nat} (hc : k < convH hs qs) (h1 : (qs.getD k Hold.zero).m ≠ modeH hs (qs.getD k Hold.zero).t) (he : covers (qs.getD k Hold.zero).m (modeH hs (qs.getD k Hold.zero).t) = true) : qStep hs qs k = true := by
  unfold qStep; rw [conv_lt hs qs hc, he]
  have h2 : ((qs.getD k Hold.zero).m != modeH hs (qs.getD k Hold.zero).t) = true := by simpa using h1
  rw [h2]; simp [hc]
theorem step_all {p : Nat → Bool} {k : Nat} (h : ∀ j, j < k → p j = true) (hk : p k = true) : ∀ j, j < k + 1 → p j = true := by
  intro j hj
  by_cases e : j = k
  · subst e; exact hk
  · exact h j (by omega)
theorem step_none {p : Nat → Bool} {k : Nat} (h : ∀ j, j < k → p j = false) (hk : p k = false) : ∀ j, j < k + 1 → p j = false := by
  intro j hj
  by_cases e : j = k
  · subst e; exact hk
  · exact h j (by omega)

def headFits (hs qs : List Hold) : Bool := match qs with
  | [] => false
  | q :: _ => (hasH hs q.t || decide (hs.length < 20)) && fitsH hs q.t q.m
theorem headFits_pos {hs qs : List Hold} (h : 0 < qs.length) : headFits hs qs = ((hasH hs (qs.getD 0 Hold.zero).t || decide (hs.length < 20)) && fitsH hs (qs.getD 0 Hold.zero).t (qs.getD 0 Hold.zero).m) := by
  cases qs with
  | nil => simp at h
  | cons q qs => rfl

/-- The code of a lock that doesn't hang on its resource. -/
def lockFault (l : Lock) : Int :=
  if 20 < l.hs.length ∨ 20 < l.qs.length then 2 else
  if !(namesH l.hs && namesH l.qs) then 3 else
  if twice l.hs || twice l.qs then 7 else
  if (l.hs.length + l.qs.length == 0) || !allFit' l.hs || !qOk l.hs l.qs || headFits l.hs l.qs then 1 else 0
def lkAt (ls : List Lock) (k : Nat) : Lock := ls.getD k Lock.zero
def lkOne (ls : List Lock) (k : Nat) : Int :=
  if !inB (lkAt ls k).r 0 100 then 3 else
  if 0 < k ∧ (lkAt ls k).r ≤ (lkAt ls (k - 1)).r then 1 else lockFault (lkAt ls k)
def waiters (ls : List Lock) : List Hold := ls.flatMap (·.qs)
def lksGo (ls : List Lock) : Nat → Nat → Int
  | 0, _ => if twice (waiters ls) then 10 else 0
  | f + 1, k => if lkOne ls k != 0 then lkOne ls k else lksGo ls f (k + 1)
def locksFault (ls : List Lock) : Int := lksGo ls ls.length 0
theorem lksGo_end {ls : List Lock} {n k : Nat} (h : k = n) : lksGo ls (n - k) k = if twice (waiters ls) then 10 else 0 := by
  subst h; rw [Nat.sub_self]; rfl
theorem lksGo_bad {ls : List Lock} {n k : Nat} (h : k < n) (hb : (lkOne ls k != 0) = true) : lksGo ls (n - k) k = lkOne ls k := by
  obtain ⟨f, hf⟩ : ∃ f, n - k = f + 1 := ⟨n - k - 1, by omega⟩
  rw [hf, lksGo, if_pos hb]
theorem lksGo_next {ls : List Lock} {n k : Nat} (h : k < n) (hb : (lkOne ls k != 0) = false) : lksGo ls (n - k) k = lksGo ls (n - (k + 1)) (k + 1) := by
  obtain ⟨f, hf⟩ : ∃ f, n - k = f + 1 := ⟨n - k - 1, by omega⟩
  rw [hf, lksGo, if_neg (by simp [hb]), show n - (k + 1) = f by omega]
theorem lkOne_res {ls : List Lock} {k : Nat} (h : inB (lkAt ls k).r 0 100 = false) : lkOne ls k = 3 := by
  unfold lkOne; rw [h]; rfl
theorem lkOne_low {ls : List Lock} {k : Nat} (h : inB (lkAt ls k).r 0 100 = true) (h0 : 0 < k) (h1 : (lkAt ls k).r ≤ (lkAt ls (k - 1)).r) : lkOne ls k = 1 := by
  unfold lkOne; rw [h, if_neg (by simp), if_pos ⟨h0, h1⟩]
theorem lkOne_own {ls : List Lock} {k : Nat} (h : inB (lkAt ls k).r 0 100 = true) (h1 : ¬ (0 < k ∧ (lkAt ls k).r ≤ (lkAt ls (k - 1)).r)) : lkOne ls k = lockFault (lkAt ls k) := by
  unfold lkOne; rw [h, if_neg (by simp), if_neg h1]

theorem lock_many {l : Lock} (h : 20 < l.hs.length ∨ 20 < l.qs.length) : lockFault l = 2 := by
  unfold lockFault; rw [if_pos h]
theorem lock_name {l : Lock} (h : ¬ (20 < l.hs.length ∨ 20 < l.qs.length)) (h2 : (namesH l.hs && namesH l.qs) = false) : lockFault l = 3 := by
  unfold lockFault; rw [if_neg h, h2]; rfl
theorem lock_twice {l : Lock} (h : ¬ (20 < l.hs.length ∨ 20 < l.qs.length)) (h2 : (namesH l.hs && namesH l.qs) = true) (h3 : (twice l.hs || twice l.qs) = true) : lockFault l = 7 := by
  unfold lockFault; rw [if_neg h, h2, if_neg (by simp), if_pos h3]
theorem lock_form {l : Lock} (h : ¬ (20 < l.hs.length ∨ 20 < l.qs.length)) (h2 : (namesH l.hs && namesH l.qs) = true) (h3 : (twice l.hs || twice l.qs) = false)
    (h4 : ((l.hs.length + l.qs.length == 0) || !allFit' l.hs || !qOk l.hs l.qs || headFits l.hs l.qs) = true) : lockFault l = 1 := by
  unfold lockFault; rw [if_neg h, h2, if_neg (by simp), h3, if_neg (by simp), if_pos h4]
theorem lock_ok {l : Lock} (h : ¬ (20 < l.hs.length ∨ 20 < l.qs.length)) (h2 : (namesH l.hs && namesH l.qs) = true) (h3 : (twice l.hs || twice l.qs) = false)
    (h4 : ((l.hs.length + l.qs.length == 0) || !allFit' l.hs || !qOk l.hs l.qs || headFits l.hs l.qs) = false) : lockFault l = 0 := by
  unfold lockFault; rw [if_neg h, h2, if_neg (by simp), h3, if_neg (by simp), h4, if_neg (by simp)]
/-- A lock without a fault. -/
theorem lock_good {l : Lock} (h : lockFault l = 0) : l.hs.length ≤ 20 ∧ l.qs.length ≤ 20 ∧ namesH l.hs = true ∧ namesH l.qs = true ∧ twice l.hs = false ∧ twice l.qs = false ∧ 0 < l.hs.length + l.qs.length ∧ allFit' l.hs = true ∧ qOk l.hs l.qs = true ∧ headFits l.hs l.qs = false := by
  by_cases h1 : 20 < l.hs.length ∨ 20 < l.qs.length
  · rw [lock_many h1] at h; cases h
  cases h2 : (namesH l.hs && namesH l.qs)
  · rw [lock_name h1 h2] at h; cases h
  cases h3 : (twice l.hs || twice l.qs)
  · cases h4 : ((l.hs.length + l.qs.length == 0) || !allFit' l.hs || !qOk l.hs l.qs || headFits l.hs l.qs)
    · simp at h1 h2 h3 h4
      obtain ⟨⟨⟨h5, h6⟩, h7⟩, h8⟩ := h4
      refine ⟨by omega, by omega, h2.1, h2.2, h3.1, h3.2, ?_, h6, h7, h8⟩
      rcases Nat.eq_zero_or_pos l.hs.length with h0 | h0
      · have := h5 (List.length_eq_zero_iff.1 h0)
        have : l.qs.length ≠ 0 := fun e => this (List.length_eq_zero_iff.1 e)
        omega
      · omega
    · rw [lock_form h1 h2 h3 h4] at h; cases h
  · rw [lock_twice h1 h2 h3] at h; cases h
/-- Locks without a fault. -/
theorem lksGo_good {ls : List Lock} (n k : Nat) (h : lksGo ls n k = 0) : (∀ i, k ≤ i → i < k + n → lkOne ls i = 0) ∧ twice (waiters ls) = false := by
  induction n generalizing k with
  | zero =>
    refine ⟨fun i h1 h2 => by omega, ?_⟩
    unfold lksGo at h
    cases ht : twice (waiters ls)
    · rfl
    · rw [ht] at h; cases h
  | succ n ih =>
    unfold lksGo at h
    split at h
    · next hb => simp [h] at hb
    · next hb =>
      obtain ⟨h1, h2⟩ := ih _ h
      refine ⟨fun i hi hj => ?_, h2⟩
      by_cases hik : i = k
      · subst hik; simpa using hb
      · exact h1 i (by omega) (by omega)
theorem locks_good {ls : List Lock} (h : locksFault ls = 0) : (∀ i, i < ls.length → lkOne ls i = 0) ∧ twice (waiters ls) = false := by
  obtain ⟨h1, h2⟩ := lksGo_good _ _ h
  exact ⟨fun i hi => h1 i (Nat.zero_le _) (by omega), h2⟩
theorem one_good {ls : List Lock} {k : Nat} (h : lkOne ls k = 0) : 0 ≤ (lkAt ls k).r ∧ (lkAt ls k).r ≤ 100 ∧ (0 < k → (lkAt ls (k - 1)).r < (lkAt ls k).r) ∧ lockFault (lkAt ls k) = 0 := by
  cases h1 : inB (lkAt ls k).r 0 100
  · rw [lkOne_res h1] at h; cases h
  by_cases h2 : 0 < k ∧ (lkAt ls k).r ≤ (lkAt ls (k - 1)).r
  · rw [lkOne_low h1 h2.1 h2.2] at h; cases h
  · rw [lkOne_own h1 h2] at h
    unfold inB at h1
    simp at h1
    refine ⟨h1.1, h1.2, fun h0 => ?_, h⟩
    rcases Int.lt_or_le (lkAt ls (k - 1)).r (lkAt ls k).r with h3 | h3
    · exact h3
    · exact absurd ⟨h0, h3⟩ h2

/-- Does one of the first i queues have a transaction of the i-th? -/
def crossRow (ls : List Lock) (i : Nat) : Bool := (lkAt ls i).qs.any fun q => (List.range i).any fun j => hasH (lkAt ls j).qs q.t
theorem cross_twice {ls : List Lock} (h : ∀ i, i < ls.length → twice (lkAt ls i).qs = false) : twice (waiters ls) = (List.range ls.length).any (crossRow ls) := by
  have key : twice (waiters ls) = false ↔ (List.range ls.length).any (crossRow ls) = false := by
    rw [twice_pair]
    unfold waiters
    rw [List.pairwise_flatMap]
    have hA : (∀ a ∈ ls, a.qs.Pairwise fun a b => a.t ≠ b.t) := by
      intro a ha
      obtain ⟨i, hi, rfl⟩ := List.getElem_of_mem ha
      have := h i hi
      rw [twice_pair] at this
      simpa [lkAt, List.getD, hi] using this
    rw [List.any_eq_false, List.pairwise_iff_getElem]
    constructor
    · rintro ⟨_, hp⟩ i hi
      simp only [List.mem_range] at hi
      unfold crossRow hasH
      simp only [List.any_eq_true, not_exists, not_and, List.mem_range]
      intro q hq j hj x hx hxq
      have := hp j i (by omega) hi hj x (by simpa [lkAt, List.getD, show j < ls.length by omega] using hx) q (by simpa [lkAt, List.getD, hi] using hq)
      simp at hxq
      exact this hxq
    · intro hc
      refine ⟨hA, fun i j hi hj hij x hx y hy he => ?_⟩
      have := hc j (by simpa using hj)
      apply this
      unfold crossRow hasH
      simp only [List.any_eq_true, List.mem_range]
      exact ⟨y, by simpa [lkAt, List.getD, hj] using hy, i, hij, x, by simpa [lkAt, List.getD, hi] using hx, by simpa using he⟩
  cases h1 : twice (waiters ls) <;> cases h2 : (List.range ls.length).any (crossRow ls) <;> simp_all
end Go.Proofs.YtalhmogaogaekaaDoor.Ch
