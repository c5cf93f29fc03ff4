/- Several texts in one: AskO, FreK, FreN, EdE, AskN. -/
import Derived.Test.YtjagobcogkdfhaaAskK
import Derived.Test.YtjagobcogkdfhaaAskZ
import Derived.Test.YtjagobcogkdfhaaLkZ
import Derived.Test.YtjagobcogkdfhaaEdK


/- Plain: a lock asked for has no fault again. -/
namespace Go.Proofs.Ytjagobcogkdfhaa.Ch
theorem enter_code {l : Lock} {k : Nat} {h : Hold} (h0 : (enterL l k h).2.1 = 0) : l.qs.length < 20 ∧ enterL l k h = (false, 0, ⟨l.r, l.hs, l.qs.take k ++ [h] ++ l.qs.drop k⟩) := by
  unfold enterL at h0 ⊢
  split at h0
  · simp at h0
  · next hh => rw [if_neg hh]; exact ⟨by omega, rfl⟩
theorem askOne_good {l : Lock} (g : Gd l) {t m : Int} (ht : inB t 1 999 = true) (hm : inB m 1 5 = true) (hw : hasH l.qs t = false) (h0 : (askOne l t m).2.1 = 0) : Gd (askOne l t m).2.2 := by
  obtain ⟨hM, hN⟩ := modeH_names g.hn t
  have hmM := held_isM hm
  have hname : nameH ⟨t, join (modeH l.hs t) m⟩ = true := by unfold nameH; rw [ht, join_held hM hm]; rfl
  unfold askOne at h0 ⊢
  split
  · exact g
  · next hc =>
    rw [if_neg hc] at h0
    have hc' : covers (modeH l.hs t) m = false := by simpa using hc
    split
    · next h1 =>
      rw [if_pos h1] at h0
      rw [Bool.and_eq_true, beq_iff_eq] at h1
      have hh : hasH l.hs t = false := by rw [← hN, h1.1]; rfl
      obtain ⟨hl, he⟩ := enter_code h0
      rw [he]
      simp only [List.take_length, List.drop_length, List.append_nil]
      refine g.last hname hh hw hl ?_
      have := h1.2
      rw [Bool.or_eq_true] at this
      rcases this with h | h
      · exact .inl (by simpa using h)
      · exact .inr (by simpa using h)
    · next h1 =>
      rw [if_neg h1] at h0
      split
      · next h2 =>
        rw [if_pos h2] at h0
        have hne : modeH l.hs t ≠ 0 := fun e => h1 (by rw [h2, e]; rfl)
        have hh : hasH l.hs t = true := by rw [← hN]; simpa using hne
        obtain ⟨hl, he⟩ := enter_code h0
        rw [he]
        exact g.behind hname hh hw hl (by simpa using h2) (join_ne hM hmM hc') (join_covers hM hmM).1
      · next h2 =>
        rw [if_neg h2] at h0
        split
        · next h3 => rw [if_pos h3] at h0; simp at h0
        · next h3 =>
          have hf : fitsH l.hs t (join (modeH l.hs t) m) = true := by simpa using h2
          refine g.put hname hf hw (by
            cases hx : hasH l.hs t
            · exact .inr (by rw [hx] at h3; simpa using h3)
            · exact .inl rfl) ?_
          by_cases e : modeH l.hs t = 0
          · right
            rw [e] at h1
            rw [e] at hf
            rw [hf] at h1
            have : ¬ 0 < l.qs.length := by simpa using h1
            exact List.length_eq_zero_iff.1 (by omega)
          · exact .inl ⟨by rw [← hN]; simpa using e, (join_covers hM hmM).1⟩
theorem askOne_r (l : Lock) (t m : Int) : (askOne l t m).2.2.r = l.r := by
  unfold askOne enterL
  repeat' split
  all_goals rfl
/-- The resources of the locks with one of the resource: in their order. -/
theorem with_sorted {ls : List Lock} (hg : locksFault ls = 0) {r : Int} (hr : inB r 0 100 = true) {i : Nat} (hi : i < (withL r ls).length) : 0 ≤ (lkAt (withL r ls) i).r ∧ (lkAt (withL r ls) i).r ≤ 100 ∧ (0 < i → (lkAt (withL r ls) (i - 1)).r < (lkAt (withL r ls) i).r) := by
  have ho := fun k hk => one_good ((locks_good hg).1 k hk)
  unfold withL at hi ⊢
  split
  · next h =>
    rw [if_pos h] at hi
    have := ho i hi
    exact ⟨this.1, this.2.1, this.2.2.1⟩
  · next h =>
    rw [if_neg h] at hi
    have hp := place_le r ls
    have hl : i < ls.length + 1 := by simp at hi; omega
    simp only [inB, Bool.and_eq_true, decide_eq_true_eq] at hr
    have hafter : placeR r ls < ls.length → r < (lkAt ls (placeR r ls)).r := fun hlt => by
      have h1 := place_at r ls hlt
      have h2 : (lkAt ls (placeR r ls)).r ≠ r := fun e => h (by unfold thereR; rw [decide_eq_true hlt, e]; simp)
      omega
    rw [lk_ins _ _ _ _ hp, lk_ins _ _ _ _ hp]
    rcases Nat.lt_trichotomy i (placeR r ls) with h1 | h1 | h1
    · rw [if_pos h1]
      have := ho i (by omega)
      exact ⟨this.1, this.2.1, fun h0 => by rw [if_pos (by omega)]; exact this.2.2.1 h0⟩
    · rw [if_neg (by omega), if_pos h1]
      exact ⟨hr.1, hr.2, fun h0 => by rw [if_pos (by omega)]; exact place_lt r ls (by omega)⟩
    · rw [if_neg (by omega), if_neg (by omega)]
      have := ho (i - 1) (by omega)
      refine ⟨this.1, this.2.1, fun h0 => ?_⟩
      rw [if_neg (by omega)]
      by_cases h2 : i - 1 = placeR r ls
      · rw [if_pos h2, h2]; exact hafter (by omega)
      · rw [if_neg h2]; exact this.2.2.1 (by omega)
theorem waiters_with (r : Int) (ls : List Lock) : waiters (withL r ls) = waiters ls := by
  unfold withL
  split
  · rfl
  · unfold waiters
    rw [List.flatMap_append, List.flatMap_append]
    simp only [List.flatMap_cons, List.flatMap_nil, List.append_nil]
    rw [← List.flatMap_append, List.take_append_drop]
theorem waiters_set {ls : List Lock} {k : Nat} (hk : k < ls.length) (l : Lock) : waiters (ls.set k l) = waiters (ls.take k) ++ (l.qs ++ waiters (ls.drop (k + 1))) := by
  rw [List.set_eq_take_append_cons_drop, if_pos hk]
  unfold waiters
  rw [List.flatMap_append, List.flatMap_cons]
theorem enter_qs (l : Lock) (k : Nat) (h : Hold) : (enterL l k h).2.2.qs = l.qs ∨ ((enterL l k h).2.2.qs).Perm (h :: l.qs) := by
  unfold enterL
  split
  · exact .inl rfl
  · right
    simp only
    rw [List.append_assoc, List.singleton_append]
    refine List.perm_middle.trans ?_
    rw [List.take_append_drop]
theorem askOne_qs (l : Lock) (t m : Int) : (askOne l t m).2.2.qs = l.qs ∨ ∃ h : Hold, h.t = t ∧ ((askOne l t m).2.2.qs).Perm (h :: l.qs) := by
  have key : ∀ k j, (enterL l k ⟨t, j⟩).2.2.qs = l.qs ∨ ∃ h : Hold, h.t = t ∧ ((enterL l k ⟨t, j⟩).2.2.qs).Perm (h :: l.qs) := fun k j => by
    rcases enter_qs l k ⟨t, j⟩ with h | h
    · exact .inl h
    · exact .inr ⟨_, rfl, h⟩
  unfold askOne
  split
  · exact .inl rfl
  · split
    · exact key _ _
    · split
      · exact key _ _
      · split
        · exact .inl rfl
        · exact .inl rfl
/-- Who does not wait asks for a lock: there is no fault again. -/
theorem ask_good {ls : List Lock} (hg : locksFault ls = 0) {t r m : Int} (ht : inB t 1 999 = true) (hr : inB r 0 100 = true) (hm : inB m 1 5 = true) (hw : waitsB ls t = false) (h0 : (askAt ls t r m).2.1 = 0) : locksFault (askLs ls t r m) = 0 := by
  have hno : ∀ x ∈ ls, hasH x.qs t = false := by
    rcases waits_is ls t with ⟨_, _, _, hh⟩ | ⟨hb, _⟩
    · intro x hx
      obtain ⟨i, hi, rfl⟩ := mem_lk hx
      exact hh i hi
    · rw [hw] at hb; cases hb
  have hpl := (with_len r ls).1
  have hl : Gd (lkAt (withL r ls) (placeR r ls)) ∧ hasH (lkAt (withL r ls) (placeR r ls)).qs t = false := by
    rcases with_mem (lk_mem hpl) with h | h
    · exact ⟨Gd.of (good_mem hg h), hno _ h⟩
    · rw [h]; exact ⟨Gd.new r, rfl⟩
  have hx := askOne_good hl.1 ht hm hl.2 h0
  refine locks_of (fun i hi => ?_) ?_
  · have hi' : i < (withL r ls).length := by unfold askLs at hi; simpa using hi
    have hrr : ∀ j, (lkAt (askLs ls t r m) j).r = (lkAt (withL r ls) j).r := fun j => by
      unfold askLs
      rw [lk_set _ _ _ _ hpl]
      split
      · next e => subst e; exact askOne_r _ _ _
      · rfl
    obtain ⟨a, b, c⟩ := with_sorted hg hr hi'
    rw [hrr, hrr]
    refine ⟨a, b, c, ?_⟩
    unfold askLs
    rw [lk_set _ _ _ _ hpl]
    split
    · exact hx.good (ask_used1 hm h0)
    · next e => exact good_mem hg (with_other hi' fun e' => e e'.symm)
  · have h2 := (locks_good hg).2
    rw [← waiters_with r ls, ← lk_same (withL r ls) (placeR r ls), waiters_set hpl] at h2
    unfold askLs
    rw [waiters_set hpl]
    rw [twice_nodup] at h2 ⊢
    rcases askOne_qs (lkAt (withL r ls) (placeR r ls)) t m with e | ⟨h, e1, e2⟩
    · show (List.map _ (_ ++ ((askOne (lkAt (withL r ls) (placeR r ls)) t m).2.2.qs ++ _))).Nodup
      rw [e]; exact h2
    · show (List.map _ (_ ++ ((askOne (lkAt (withL r ls) (placeR r ls)) t m).2.2.qs ++ _))).Nodup
      have hp : (waiters ((withL r ls).take (placeR r ls)) ++ ((askOne (lkAt (withL r ls) (placeR r ls)) t m).2.2.qs ++ waiters ((withL r ls).drop (placeR r ls + 1)))).Perm (h :: (waiters ((withL r ls).take (placeR r ls)) ++ ((lkAt (withL r ls) (placeR r ls)).qs ++ waiters ((withL r ls).drop (placeR r ls + 1))))) :=
        ((e2.append_right _).append_left _).trans List.perm_middle
      rw [(hp.map _).nodup_iff, List.map_cons, List.nodup_cons]
      refine ⟨fun hmem => ?_, h2⟩
      rw [← waiters_set hpl, lk_same, waiters_with] at hmem
      obtain ⟨x, hx, ex⟩ := List.mem_map.1 hmem
      unfold waiters at hx
      obtain ⟨y, hy, hxy⟩ := List.mem_flatMap.1 hx
      exact hasH_not.1 (hno y hy) x hxy (ex.trans e1)
end Go.Proofs.Ytjagobcogkdfhaa.Ch


/- Plain: freeing keeps locks without a fault; who is let in holds then and waits no more. -/
namespace Go.Proofs.Ytjagobcogkdfhaa.Ch

/-- One that converts rightly. -/
def Cv (hs : List Hold) (q : Hold) : Prop := hasH hs q.t = true ∧ q.m ≠ modeH hs q.t ∧ covers q.m (modeH hs q.t) = true
def QOrd (hs qs : List Hold) : Prop := ∃ a b, qs = a ++ b ∧ (∀ x ∈ a, Cv hs x) ∧ (∀ x ∈ b, hasH hs x.t = false)
theorem getD_left (a b : List Hold) {i : Nat} (h : i < a.length) : (a ++ b).getD i Hold.zero = a.getD i Hold.zero := by
  simp [List.getD, List.getElem?_append_left h]
theorem getD_right (a b : List Hold) {i : Nat} (h : a.length ≤ i) : (a ++ b).getD i Hold.zero = b.getD (i - a.length) Hold.zero := by
  simp [List.getD, List.getElem?_append_right h]
theorem getD_mem {l : List Hold} {i : Nat} (h : i < l.length) : l.getD i Hold.zero ∈ l := by
  rw [List.getD_eq_getElem?_getD, List.getElem?_eq_getElem h]; exact List.getElem_mem h
theorem mem_getD {l : List Hold} {x : Hold} (h : x ∈ l) : ∃ i, i < l.length ∧ l.getD i Hold.zero = x := by
  obtain ⟨i, hi, e⟩ := List.getElem_of_mem h
  exact ⟨i, hi, by rw [List.getD_eq_getElem?_getD, List.getElem?_eq_getElem hi]; exact e⟩
theorem qOk_to {hs qs : List Hold} (h : qOk hs qs = true) : QOrd hs qs := by
  have H := range_all.1 h
  have hle := conv_le hs qs
  refine ⟨qs.take (convH hs qs), qs.drop (convH hs qs), (List.take_append_drop _ _).symm, ?_, ?_⟩
  · intro x hx
    obtain ⟨i, hi, e⟩ := mem_getD hx
    simp at hi
    have hi : i < convH hs qs ∧ i < qs.length := by omega
    have e' : qs.getD i Hold.zero = x := by rw [← e]; simp [List.getD, hi.1]
    have hh := conv_lt hs qs hi.1
    have hs' := H i hi.2
    rw [e'] at hh
    refine ⟨hh, ?_, ?_⟩
    · intro em
      rw [qStep_same (by rw [e']; exact hh) (by rw [e']; exact em)] at hs'
      cases hs'
    · cases hc : covers x.m (modeH hs x.t)
      · rw [qStep_cov (by rw [e']; exact hh) (by rw [e']; exact hc)] at hs'; cases hs'
      · rfl
  · intro x hx
    obtain ⟨i, hi, e⟩ := mem_getD hx
    simp at hi
    have e' : qs.getD (convH hs qs + i) Hold.zero = x := by rw [← e]; simp [List.getD]
    cases hh : hasH hs x.t
    · rfl
    · have hs' := H (convH hs qs + i) (by omega)
      rw [qStep_late (by rw [e']; exact hh) (by omega)] at hs'
      cases hs'
theorem qOk_from {hs qs : List Hold} (h : QOrd hs qs) : qOk hs qs = true := by
  obtain ⟨a, b, rfl, ha, hb⟩ := h
  have hc : convH hs (a ++ b) = a.length := by
    refine conv_is (by simp) (fun j hj => ?_) (fun hk => ?_)
    · rw [getD_left a b hj]; exact (ha _ (getD_mem hj)).1
    · rw [getD_right a b (Nat.le_refl _)]
      refine hb _ (getD_mem ?_)
      simp at hk; omega
  refine qOk_true fun i hi => ?_
  by_cases hl : i < a.length
  · have := ha _ (getD_mem hl)
    rw [← getD_left a b hl] at this
    exact qStep_ok (by omega) this.2.1 this.2.2
  · refine qStep_no ?_
    rw [getD_right a b (by omega)]
    refine hb _ (getD_mem ?_)
    simp at hi; omega

/-- All of Gd but for the head. -/
structure Gx (l : Lock) : Prop where
  hl : l.hs.length ≤ 20
  ql : l.qs.length ≤ 20
  hn : namesH l.hs = true
  qn : namesH l.qs = true
  h2 : twice l.hs = false
  q2 : twice l.qs = false
  fit : allFit' l.hs = true
  ord : QOrd l.hs l.qs
theorem Gx.gd {l : Lock} (g : Gx l) (h : headFits l.hs l.qs = false) : Gd l := ⟨g.hl, g.ql, g.hn, g.qn, g.h2, g.q2, g.fit, qOk_from g.ord, h⟩
theorem without_mem {hs : List Hold} {t : Int} {x : Hold} : x ∈ withoutH hs t ↔ x ∈ hs ∧ x.t ≠ t := by
  simp [withoutH]
theorem without_has (hs : List Hold) (t s : Int) : hasH (withoutH hs t) s = (hasH hs s && !(s == t)) := by
  rw [Bool.eq_iff_iff, hasH_mem]
  simp only [without_mem, Bool.and_eq_true, hasH_mem, Bool.not_eq_true', beq_eq_false_iff_ne]
  constructor
  · rintro ⟨h, ⟨h1, h2⟩, rfl⟩; exact ⟨⟨h, h1, rfl⟩, h2⟩
  · rintro ⟨⟨h, h1, rfl⟩, h2⟩; exact ⟨h, ⟨h1, h2⟩, rfl⟩
theorem without_own (hs : List Hold) (t : Int) : hasH (withoutH hs t) t = false := by rw [without_has]; simp
theorem mode_none {hs : List Hold} {t : Int} (h : hasH hs t = false) : modeH hs t = 0 := by
  rcases atH_cases hs t with ⟨_, _, e⟩ | ⟨_, _, _, e, _⟩
  · exact e
  · rw [h] at e; cases e
theorem without_mode {hs : List Hold} (h2 : twice hs = false) {t s : Int} (hne : s ≠ t) : modeH (withoutH hs t) s = modeH hs s := by
  cases hh : hasH hs s
  · rw [mode_none hh, mode_none (by rw [without_has, hh]; rfl)]
  · obtain ⟨h, hm, rfl⟩ := hasH_mem.1 hh
    rw [modeH_mem h2 hm, modeH_mem (without_twice h2 t) (without_mem.2 ⟨hm, hne⟩)]
theorem Gx.without {l : Lock} (g : Gd l) (t : Int) : Gx ⟨l.r, withoutH l.hs t, withoutH l.qs t⟩ := by
  refine ⟨Nat.le_trans (without_len _ _) g.hl, Nat.le_trans (without_len _ _) g.ql, without_names g.hn t, without_names g.qn t, without_twice g.h2 t, without_twice g.q2 t, ?_, ?_⟩
  · rw [allFit_all]
    intro x hx y hy
    exact allFit_all.1 g.fit x (without_mem.1 hx).1 y (without_mem.1 hy).1
  · obtain ⟨a, b, e, ha, hb⟩ := qOk_to g.ord
    refine ⟨withoutH a t, withoutH b t, by rw [e]; simp [withoutH], ?_, ?_⟩
    · intro x hx
      obtain ⟨hx, hne⟩ := without_mem.1 hx
      obtain ⟨h1, h2, h3⟩ := ha x hx
      have em := without_mode g.h2 hne
      refine ⟨?_, ?_, ?_⟩
      · simp only [without_has, h1, Bool.true_and, Bool.not_eq_true', beq_eq_false_iff_ne]; exact hne
      · simp only [em]; exact h2
      · simp only [em]; exact h3
    · intro x hx
      obtain ⟨hx, hne⟩ := without_mem.1 hx
      simp only [without_has, hb x hx, Bool.false_and]
theorem headFits_cons {hs q : List Hold} {h : Hold} (hf : headFits hs (h :: q) = true) : (hasH hs h.t = true ∨ hs.length < 20) ∧ fitsH hs h.t h.m = true := by
  unfold headFits at hf
  simp only [Bool.and_eq_true, Bool.or_eq_true, decide_eq_true_eq] at hf
  exact hf
theorem twice_cons {h : Hold} {q : List Hold} (ht : twice (h :: q) = false) : ∀ x ∈ q, h.t ≠ x.t := by
  rw [twice_pair, List.pairwise_cons] at ht; exact ht.1
theorem Gx.step {r : Int} {hs q : List Hold} {h : Hold} (g : Gx ⟨r, hs, h :: q⟩) (hf : headFits hs (h :: q) = true) : Gx ⟨r, putH hs h, q⟩ := by
  obtain ⟨hl, ql, hn, qn, h2, q2, fit, ord⟩ := g
  simp only at hl ql hn qn h2 q2 fit ord
  obtain ⟨hr, hfit⟩ := headFits_cons hf
  have hnm : nameH h = true := names_all.1 qn h (by simp)
  have hne := twice_cons q2
  refine ⟨?_, by simp at ql ⊢; omega, putH_names hn hnm, names_all.2 fun x hx => names_all.1 qn x (by simp [hx]), putH_twice h2 h, twice_tail q2, putH_fit h2 fit hfit, ?_⟩
  · simp only
    cases hh : hasH hs h.t
    · rw [putH_lenN hh]
      rcases hr with hr | hr
      · rw [hh] at hr; cases hr
      · omega
    · rw [putH_lenY hh]; exact hl
  · have same : ∀ x ∈ q, hasH (putH hs h) x.t = hasH hs x.t ∧ modeH (putH hs h) x.t = modeH hs x.t := by
      intro x hx
      have hx' := hne x hx
      refine ⟨?_, putH_mode h2 h (fun e => hx' e.symm)⟩
      rw [putH_has h2, show (h.t == x.t) = false by rw [beq_eq_false_iff_ne]; exact hx', Bool.or_false]
    obtain ⟨a, b, e, ha, hb⟩ := ord
    cases a with
    | nil =>
      simp only [List.nil_append] at e
      refine ⟨[], q, rfl, by simp, fun x hx => ?_⟩
      simp only [(same x hx).1]
      exact hb x (by rw [← e]; simp [hx])
    | cons y a =>
      simp only [List.cons_append, List.cons.injEq] at e
      obtain ⟨rfl, e⟩ := e
      refine ⟨a, b, e, fun x hx => ?_, fun x hx => ?_⟩
      · have hq : x ∈ q := by rw [e]; simp [hx]
        obtain ⟨c1, c2, c3⟩ := ha x (by simp [hx])
        obtain ⟨s1, s2⟩ := same x hq
        exact ⟨by simp only [s1]; exact c1, by simp only [s2]; exact c2, by simp only [s2]; exact c3⟩
      · have hq : x ∈ q := by rw [e]; simp [hx]
        simp only [(same x hq).1]
        exact hb x hx
theorem admit_gd {r : Int} {hs qs : List Hold} (g : Gx ⟨r, hs, qs⟩) : Gd ⟨r, (admitL hs qs).1, (admitL hs qs).2.1⟩ := by
  induction qs generalizing hs with
  | nil => exact g.gd rfl
  | cons h q ih =>
    cases hf : headFits hs (h :: q)
    · rw [admit_no hf]; exact g.gd hf
    · rw [admit_yes hf]; exact ih (g.step hf)
theorem free_gd {l : Lock} (g : Gd l) (t : Int) : Gd (freeOne l t) := admit_gd (Gx.without g t)

/-- Who is let in stood ahead of those that wait still. -/
theorem admit_split (hs qs : List Hold) : ∃ a, qs = a ++ (admitL hs qs).2.1 ∧ (admitL hs qs).2.2 = a.map (·.t) := by
  induction qs generalizing hs with
  | nil => exact ⟨[], rfl, rfl⟩
  | cons h q ih =>
    cases hf : headFits hs (h :: q)
    · rw [admit_no hf]; exact ⟨[], rfl, rfl⟩
    · rw [admit_yes hf]
      obtain ⟨a, e1, e2⟩ := ih (putH hs h)
      exact ⟨h :: a, by simp only [List.cons_append]; rw [← e1], by simp only [List.map_cons]; rw [e2]⟩
theorem admit_has {hs qs : List Hold} (h2 : twice hs = false) (v : Int) : hasH (admitL hs qs).1 v = (hasH hs v || (admitL hs qs).2.2.contains v) := by
  induction qs generalizing hs with
  | nil => simp [admitL]
  | cons h q ih =>
    cases hf : headFits hs (h :: q)
    · rw [admit_no hf]; simp
    · rw [admit_yes hf, ih (putH_twice h2 h), putH_has h2]
      simp only [List.contains_cons]
      rw [Bool.or_assoc]
      congr 1
      congr 1
      rw [Bool.eq_iff_iff]; simp only [beq_iff_eq]; exact ⟨fun e => e.symm, fun e => e.symm⟩

theorem free_qs (l : Lock) (t : Int) : ∃ a, withoutH l.qs t = a ++ (freeOne l t).qs ∧ freeGot l t = a.map (·.t) := admit_split _ _
theorem free_sub (l : Lock) (t : Int) : ((freeOne l t).qs).Sublist l.qs := by
  obtain ⟨a, e, _⟩ := free_qs l t
  have h1 : (withoutH l.qs t).Sublist l.qs := List.filter_sublist
  rw [e] at h1
  exact (List.sublist_append_right a _).trans h1
theorem got_mem {l : Lock} {t v : Int} (q2 : twice l.qs = false) (h : v ∈ freeGot l t) : v ≠ t ∧ hasH l.qs v = true ∧ hasH (freeOne l t).qs v = false := by
  obtain ⟨a, e, eg⟩ := free_qs l t
  rw [eg] at h
  obtain ⟨x, hx, rfl⟩ := List.mem_map.1 h
  have hx' : x ∈ withoutH l.qs t := by rw [e]; simp [hx]
  obtain ⟨hm, hne⟩ := without_mem.1 hx'
  have hw := without_twice q2 t
  rw [e, twice_pair, List.pairwise_append] at hw
  refine ⟨hne, hasH_mem.2 ⟨x, hm, rfl⟩, hasH_not.2 fun y hy ey => hw.2.2 x hx y hy ey.symm⟩
theorem got_holds {l : Lock} (g : Gd l) {t v : Int} (h : v ∈ freeGot l t) : hasH (freeOne l t).hs v = true := by
  unfold freeOne
  simp only
  rw [admit_has (without_twice g.h2 t)]
  have : (admitL (withoutH l.hs t) (withoutH l.qs t)).2.2.contains v = true := by rw [List.contains_iff_mem]; exact h
  rw [this, Bool.or_true]
theorem free_gone {l : Lock} (g : Gd l) (t : Int) : hasH (freeOne l t).hs t = false ∧ hasH (freeOne l t).qs t = false := by
  constructor
  · unfold freeOne
    simp only
    rw [admit_has (without_twice g.h2 t), without_own, Bool.false_or]
    cases hc : (admitL (withoutH l.hs t) (withoutH l.qs t)).2.2.contains t
    · rfl
    · rw [List.contains_iff_mem] at hc
      exact absurd rfl (got_mem g.q2 hc).1
  · obtain ⟨a, e, _⟩ := free_qs l t
    refine hasH_not.2 fun y hy ey => ?_
    have : y ∈ withoutH l.qs t := by rw [e]; simp [hy]
    exact (without_mem.1 this).2 ey
end Go.Proofs.Ytjagobcogkdfhaa.Ch


/- Plain: what freeing tells (the law FnFrees); where one waits. -/
namespace Go.Proofs.Ytjagobcogkdfhaa.Ch

theorem waits_apart {ls : List Lock} (h2 : twice (waiters ls) = false) {i j : Nat} (hi : i < ls.length) (hj : j < ls.length) {v : Int} (ai : hasH (lkAt ls i).qs v = true) (aj : hasH (lkAt ls j).qs v = true) : i = j := by
  rw [twice_pair] at h2
  unfold waiters at h2
  rw [List.pairwise_flatMap] at h2
  have hp := List.pairwise_iff_getElem.1 h2.2
  have e : ∀ n, (hn : n < ls.length) → lkAt ls n = ls[n] := fun n hn => by simp [lkAt, List.getD, hn]
  rw [e i hi] at ai
  rw [e j hj] at aj
  obtain ⟨x, hx, ex⟩ := hasH_mem.1 ai
  obtain ⟨y, hy, ey⟩ := hasH_mem.1 aj
  rcases Nat.lt_trichotomy i j with h | h | h
  · exact absurd (ex.trans ey.symm) (hp i j hi hj h x hx y hy)
  · exact h
  · exact absurd (ey.trans ex.symm) (hp j i hj hi h y hy x hx)
theorem waits_by {ls : List Lock} (h2 : twice (waiters ls) = false) {x : Lock} (hx : x ∈ ls) {v : Int} (h : hasH x.qs v = true) : waitsB ls v = true ∧ waitsL ls v = x.r := by
  obtain ⟨i, hi, rfl⟩ := mem_lk hx
  have := waits_at (t := v) hi (fun j hj => by
    cases hh : hasH (lkAt ls j).qs v
    · rfl
    · have := waits_apart h2 (by omega) hi hh h; omega) h
  exact ⟨this.2.1, this.1⟩
theorem waits_none {ls : List Lock} {v : Int} (h : ∀ x ∈ ls, hasH x.qs v = false) : waitsB ls v = false ∧ waitsL ls v = -1 := by
  have := waits_no (ls := ls) (t := v) fun j hj => h _ (lk_mem hj)
  exact ⟨this.2.1, this.1⟩
theorem waits_case (ls : List Lock) (v : Int) : (∀ x ∈ ls, hasH x.qs v = false) ∨ ∃ x ∈ ls, hasH x.qs v = true := by
  by_cases h : ∃ x ∈ ls, hasH x.qs v = true
  · exact .inr h
  · left
    intro x hx
    cases hh : hasH x.qs v
    · rfl
    · exact absurd ⟨x, hx, hh⟩ h

def freed (ls : List Lock) (t : Int) : List Lock := (freeAll ls t).filter fun l => !(l.hs.length + l.qs.length == 0)
theorem freed_mem {ls : List Lock} {t : Int} {x : Lock} : x ∈ freed ls t ↔ (∃ l ∈ ls, freeOne l t = x) ∧ 0 < x.hs.length + x.qs.length := by
  unfold freed freeAll
  simp only [List.mem_filter, List.mem_map, Bool.not_eq_true', beq_eq_false_iff_ne]
  exact and_congr_right fun _ => Nat.pos_iff_ne_zero.symm
theorem free_r (l : Lock) (t : Int) : (freeOne l t).r = l.r := rfl
theorem good_rise {ls : List Lock} (h : locksFault ls = 0) : ls.Pairwise fun a b => a.r < b.r := by
  rw [List.pairwise_iff_getElem]
  intro i j hi hj hij
  have := res_rise h hij hj
  simpa [lkAt, List.getD, hi, hj] using this
theorem locks_from {ls : List Lock} (h1 : ∀ l ∈ ls, 0 ≤ l.r ∧ l.r ≤ 100 ∧ lockFault l = 0) (h2 : ls.Pairwise fun a b => a.r < b.r) (h3 : twice (waiters ls) = false) : locksFault ls = 0 := by
  refine locks_of (fun i hi => ?_) h3
  obtain ⟨a, b, c⟩ := h1 _ (lk_mem hi)
  refine ⟨a, b, fun h0 => ?_, c⟩
  have := List.pairwise_iff_getElem.1 h2 (i - 1) i (by omega) hi (by omega)
  simpa [lkAt, List.getD, hi, show i - 1 < ls.length by omega] using this
theorem good_res {ls : List Lock} (h : locksFault ls = 0) {x : Lock} (hx : x ∈ ls) : 0 ≤ x.r ∧ x.r ≤ 100 := by
  obtain ⟨i, hi, rfl⟩ := mem_lk hx
  have := one_good ((locks_good h).1 i hi)
  exact ⟨this.1, this.2.1⟩
theorem waiters_freed (ls : List Lock) (t : Int) : (waiters (freed ls t)).Sublist (waiters ls) := by
  unfold waiters freed freeAll
  induction ls with
  | nil => exact List.Sublist.refl _
  | cons l ls ih =>
    simp only [List.map_cons, List.flatMap_cons]
    by_cases hu : (!((freeOne l t).hs.length + (freeOne l t).qs.length == 0)) = true
    · rw [List.filter_cons_of_pos (p := fun l : Lock => !(l.hs.length + l.qs.length == 0)) hu, List.flatMap_cons]
      exact (free_sub l t).append ih
    · rw [List.filter_cons_of_neg (p := fun l : Lock => !(l.hs.length + l.qs.length == 0)) hu]
      exact ih.trans (List.sublist_append_right _ _)
theorem free_good {ls : List Lock} (hg : locksFault ls = 0) (t : Int) : locksFault (freed ls t) = 0 := by
  refine locks_from (fun l hl => ?_) ?_ ?_
  · obtain ⟨⟨x, hx, rfl⟩, hu⟩ := freed_mem.1 hl
    obtain ⟨a, b⟩ := good_res hg hx
    exact ⟨a, b, (free_gd (Gd.of (good_mem hg hx)) t).good hu⟩
  · unfold freed freeAll
    refine List.Pairwise.filter _ ?_
    rw [List.pairwise_map]
    exact good_rise hg
  · have h2 := (locks_good hg).2
    rw [twice_pair] at h2 ⊢
    exact h2.sublist (waiters_freed ls t)

theorem modeL_mem {ls : List Lock} (hg : locksFault ls = 0) {x : Lock} (hx : x ∈ ls) (v : Int) : modeL ls v x.r = modeH x.hs v := by
  obtain ⟨i, hi, rfl⟩ := mem_lk hx
  exact modeL_at hg hi rfl
/-- What the law FnFrees asks of one that was let in. -/
theorem frees_got {ls : List Lock} (hg : locksFault ls = 0) {t v : Int} (hv : v ∈ freeInts ls t) :
    v ≠ t ∧ inB v 1 999 = true ∧ waitsB ls v = true ∧ inB (waitsL ls v) 0 100 = true ∧ waitsB (freed ls t) v = false ∧ modeL (freed ls t) v (waitsL ls v) ≠ 0 := by
  unfold freeInts at hv
  obtain ⟨l, hl, hv⟩ := List.mem_flatMap.1 hv
  have g := Gd.of (good_mem hg hl)
  obtain ⟨hne, hq, hnq⟩ := got_mem g.q2 hv
  have hh := got_holds g hv
  have h2 := (locks_good hg).2
  obtain ⟨w1, w2⟩ := waits_by h2 hl hq
  have hr := good_res hg hl
  have hn : inB v 1 999 = true := by
    obtain ⟨x, hx, rfl⟩ := hasH_mem.1 hq
    have := name_mode (names_all.1 g.qn x hx)
    simp [inB]; omega
  refine ⟨hne, hn, w1, by rw [w2]; simp [inB]; omega, ?_, ?_⟩
  · refine (waits_none fun x hx => ?_).1
    obtain ⟨⟨y, hy, rfl⟩, _⟩ := freed_mem.1 hx
    cases hxx : hasH (freeOne y t).qs v
    · rfl
    · obtain ⟨z, hz, ez⟩ := hasH_mem.1 hxx
      have hyq : hasH y.qs v = true := hasH_mem.2 ⟨z, (free_sub y t).subset hz, ez⟩
      obtain ⟨i, hi, rfl⟩ := mem_lk hy
      obtain ⟨j, hj, rfl⟩ := mem_lk hl
      have := waits_apart h2 hi hj hyq hq
      subst this
      rw [hxx] at hnq; cases hnq
  · have g' := free_gd g t
    have hu : 0 < (freeOne l t).hs.length + (freeOne l t).qs.length := by
      obtain ⟨z, hz, _⟩ := hasH_mem.1 hh
      have := List.length_pos_of_mem hz
      omega
    have hm : freeOne l t ∈ freed ls t := freed_mem.2 ⟨⟨l, hl, rfl⟩, hu⟩
    rw [w2, ← free_r l t, modeL_mem (free_good hg t) hm]
    have := (modeH_names g'.hn v).2
    rw [hh] at this
    simpa using this
/-- And of who is gone. -/
theorem frees_gone {ls : List Lock} (hg : locksFault ls = 0) (t : Int) : resL (freed ls t) t = [] ∧ waitsB (freed ls t) t = false := by
  constructor
  · unfold resL
    rw [List.map_eq_nil_iff, List.filter_eq_nil_iff]
    intro x hx
    obtain ⟨⟨y, hy, rfl⟩, _⟩ := freed_mem.1 hx
    rw [(free_gone (Gd.of (good_mem hg hy)) t).1]
    simp
  · refine (waits_none fun x hx => ?_).1
    obtain ⟨⟨y, hy, rfl⟩, _⟩ := freed_mem.1 hx
    exact (free_gone (Gd.of (good_mem hg hy)) t).2
end Go.Proofs.Ytjagobcogkdfhaa.Ch


/- Plain: who waits has an edge, and who has one waits. -/
namespace Go.Proofs.Ytjagobcogkdfhaa.Ch

theorem allE_mem {ls : List Lock} {e : Hold} : e ∈ allE ls ↔ ∃ l ∈ ls, ∃ i, i < l.qs.length ∧ e ∈ waitE (l.qs.getD i Hold.zero) l.hs ++ aheadE (l.qs.getD i Hold.zero) (l.qs.take i) := by
  unfold allE queueE
  simp only [List.mem_flatMap, List.mem_range]
theorem waitE_mem {q e : Hold} {hs : List Hold} : e ∈ waitE q hs ↔ ∃ h ∈ hs, h.t ≠ q.t ∧ fits h.m q.m = false ∧ e = ⟨q.t, h.t⟩ := by
  unfold waitE
  simp only [List.mem_map, List.mem_filter]
  constructor
  · rintro ⟨h, ⟨h1, h2⟩, rfl⟩
    simp at h2
    exact ⟨h, h1, h2.1, h2.2, rfl⟩
  · rintro ⟨h, h1, h2, h3, rfl⟩
    exact ⟨h, ⟨h1, by simp [h2, h3]⟩, rfl⟩
theorem aheadE_mem {q e : Hold} {qs : List Hold} : e ∈ aheadE q qs ↔ ∃ x ∈ qs, e = ⟨q.t, x.t⟩ := by
  unfold aheadE
  simp only [List.mem_map]
  exact ⟨fun ⟨x, h, e⟩ => ⟨x, h, e.symm⟩, fun ⟨x, h, e⟩ => ⟨x, h, e.symm⟩⟩
/-- Who has an edge waits, and for another. -/
theorem edge_waits {ls : List Lock} (h : locksFault ls = 0) {e : Hold} (he : e ∈ allE ls) : waitsB ls e.t = true ∧ e.t ≠ e.m := by
  obtain ⟨h1, h2⟩ := locks_good h
  obtain ⟨l, hl, i, hi, hm⟩ := allE_mem.1 he
  have hq : l.qs.getD i Hold.zero ∈ l.qs := by simp [List.getD, hi]
  have hw : hasH l.qs (l.qs.getD i Hold.zero).t = true := hasH_mem.2 ⟨_, hq, rfl⟩
  have hb := (waits_by h2 hl hw).1
  rcases List.mem_append.1 hm with hm | hm
  · obtain ⟨x, _, hne, _, rfl⟩ := waitE_mem.1 hm
    exact ⟨hb, fun e => hne e.symm⟩
  · obtain ⟨x, hx, rfl⟩ := aheadE_mem.1 hm
    refine ⟨hb, fun e => ?_⟩
    obtain ⟨k, hk, rfl⟩ := mem_lk hl
    have hg := (lock_good (one_good (h1 k hk)).2.2.2).2.2.2.2.2.1
    have := twice_hit hi (hasH_mem.2 ⟨x, hx, e.symm⟩)
    rw [hg] at this; cases this
/-- Who waits has an edge, where there is room. -/
theorem waits_edge {ls : List Lock} (h : locksFault ls = 0) (hr : ∀ l ∈ ls, l.hs.length < 20) {t : Int} (hw : waitsB ls t = true) : ∃ e ∈ allE ls, e.t = t := by
  obtain ⟨h1, h2⟩ := locks_good h
  rcases waits_case ls t with hn | ⟨l, hl, hq⟩
  · rw [(waits_none hn).1] at hw; cases hw
  obtain ⟨x, hx, rfl⟩ := hasH_mem.1 hq
  obtain ⟨i, hi, rfl⟩ := List.mem_iff_getElem.1 hx
  have hgd : l.qs.getD i Hold.zero = l.qs[i] := by simp [List.getD, hi]
  by_cases hi0 : i = 0
  · subst hi0
    obtain ⟨k, hk, hlk⟩ := mem_lk hl
    have hg := (lock_good (one_good (h1 k hk)).2.2.2).2.2.2.2.2.2.2.2.2
    rw [hlk] at hg
    rw [headFits_pos hi, hgd] at hg
    have hroom : decide (l.hs.length < 20) = true := by simpa using hr l hl
    rw [hroom, Bool.or_true, Bool.true_and] at hg
    unfold fitsH at hg
    rw [List.all_eq_false] at hg
    obtain ⟨y, hy, hf⟩ := hg
    simp at hf
    exact ⟨⟨l.qs[0].t, y.t⟩, allE_mem.2 ⟨l, hl, 0, hi, List.mem_append.2 (.inl (waitE_mem.2 ⟨y, hy, by rw [hgd]; exact hf.1, by rw [hgd]; exact hf.2, by rw [hgd]⟩))⟩, rfl⟩
  · have h0 : 0 < l.qs.length := by omega
    exact ⟨⟨l.qs[i].t, l.qs[0].t⟩, allE_mem.2 ⟨l, hl, i, hi, List.mem_append.2 (.inr (aheadE_mem.2 ⟨l.qs[0], by rw [List.mem_take_iff_getElem]; exact ⟨0, by omega, rfl⟩, by rw [hgd]⟩))⟩, rfl⟩
end Go.Proofs.Ytjagobcogkdfhaa.Ch


/- Plain: what asking tells (the law FnAsks). -/
namespace Go.Proofs.Ytjagobcogkdfhaa.Ch

theorem ask_tells1 {l : Lock} (g : Gd l) {t m : Int} (hm : inB m 1 5 = true) (h0 : (askOne l t m).2.1 = 0) :
    ((askOne l t m).1 = true → (askOne l t m).2.2.qs = l.qs ∧ covers (modeH (askOne l t m).2.2.hs t) m = true) ∧
    ((askOne l t m).1 = false → (askOne l t m).2.2.hs = l.hs ∧ hasH (askOne l t m).2.2.qs t = true) ∧
    (∀ s, s ≠ t → modeH (askOne l t m).2.2.hs s = modeH l.hs s ∧ hasH (askOne l t m).2.2.qs s = hasH l.qs s) := by
  have key : ∀ (k : Nat) (j : Int), (enterL l k ⟨t, j⟩).2.1 = 0 → ((enterL l k ⟨t, j⟩).1 = true → (enterL l k ⟨t, j⟩).2.2.qs = l.qs ∧ covers (modeH (enterL l k ⟨t, j⟩).2.2.hs t) m = true) ∧
      ((enterL l k ⟨t, j⟩).1 = false → (enterL l k ⟨t, j⟩).2.2.hs = l.hs ∧ hasH (enterL l k ⟨t, j⟩).2.2.qs t = true) ∧
      (∀ s, s ≠ t → modeH (enterL l k ⟨t, j⟩).2.2.hs s = modeH l.hs s ∧ hasH (enterL l k ⟨t, j⟩).2.2.qs s = hasH l.qs s) := by
    intro k j hc
    obtain ⟨_, e⟩ := enter_code hc
    rw [e]
    refine ⟨fun h => by simp at h, fun _ => ⟨rfl, ?_⟩, fun s hs => ⟨rfl, ?_⟩⟩
    · simp [hasH]
    · have e2 : hasH l.qs s = hasH (l.qs.take k ++ l.qs.drop k) s := by rw [List.take_append_drop]
      rw [e2]
      have hts : (t == s) = false := by rw [beq_eq_false_iff_ne]; exact fun e => hs e.symm
      simp only [hasH, List.any_append, List.any_cons, List.any_nil, hts, Bool.or_false]
  have hM := (modeH_names g.hn t).1
  have hm' : isM m = true := by unfold inB at hm; unfold isM; simp [inB] at hm ⊢; omega
  unfold askOne at h0 ⊢
  by_cases c1 : covers (modeH l.hs t) m = true
  · rw [if_pos c1] at h0 ⊢
    exact ⟨fun _ => ⟨rfl, c1⟩, fun h => by simp at h, fun _ _ => ⟨rfl, rfl⟩⟩
  rw [if_neg c1] at h0 ⊢
  by_cases c2 : (modeH l.hs t == 0 && (!fitsH l.hs t (join (modeH l.hs t) m) || decide (0 < l.qs.length))) = true
  · rw [if_pos c2] at h0 ⊢
    exact key _ _ h0
  rw [if_neg c2] at h0 ⊢
  by_cases c3 : (!fitsH l.hs t (join (modeH l.hs t) m)) = true
  · rw [if_pos c3] at h0 ⊢
    exact key _ _ h0
  rw [if_neg c3] at h0 ⊢
  by_cases c4 : (!(hasH l.hs t || decide (l.hs.length < 20))) = true
  · rw [if_pos c4] at h0
    simp at h0
  rw [if_neg c4]
  refine ⟨fun _ => ⟨rfl, ?_⟩, fun h => by simp at h, fun s hs => ⟨putH_mode g.h2 ⟨t, join (modeH l.hs t) m⟩ hs, rfl⟩⟩
  have e := putH_own g.h2 ⟨t, join (modeH l.hs t) m⟩
  simp only at e ⊢
  rw [e]
  exact (join_covers hM hm').2

theorem mem_with {r : Int} {ls : List Lock} {x : Lock} (h : x ∈ ls) : x ∈ withL r ls := by
  unfold withL
  split
  · exact h
  · rw [← List.take_append_drop (placeR r ls) ls] at h
    rcases List.mem_append.1 h with h | h
    · simp [h]
    · simp [h]
theorem with_r {ls : List Lock} (r : Int) : (lkAt (withL r ls) (placeR r ls)).r = r := by
  unfold withL
  cases ht : thereR r ls
  · rw [if_neg (by simp), lk_ins _ _ _ _ (place_le r ls)]
    rw [if_neg (Nat.lt_irrefl _), if_pos rfl]
  · rw [if_pos rfl]
    unfold thereR at ht
    simp only [Bool.and_eq_true, beq_iff_eq] at ht
    exact ht.2
theorem mode_with {ls : List Lock} (hg : locksFault ls = 0) (r v : Int) : modeL ls v r = modeH (lkAt (withL r ls) (placeR r ls)).hs v := by
  have hpl := (with_len r ls).1
  rcases with_mem (lk_mem hpl) with h | h
  · have := modeL_mem hg h v
    rw [with_r] at this
    exact this
  · rw [h]
    have : modeH ([] : List Hold) v = 0 := mode_none rfl
    simp only [this]
    refine modeL_no fun j hj e => ?_
    exfalso
    cases ht : thereR r ls
    · have hk : placeR r ls < ls.length → r < (lkAt ls (placeR r ls)).r := by
        intro hp
        have h1 := place_at r ls hp
        have h2 : (lkAt ls (placeR r ls)).r ≠ r := by
          intro e2
          unfold thereR at ht
          simp [hp, e2] at ht
        omega
      rcases Nat.lt_trichotomy j (placeR r ls) with hlt | heq | hgt
      · have := place_lt r ls hlt; omega
      · subst heq; have := hk hj; omega
      · have h1 := hk (by omega)
        have h2 := res_rise hg hgt hj
        omega
    · unfold thereR at ht
      simp only [Bool.and_eq_true, decide_eq_true_eq, beq_iff_eq] at ht
      have e3 : withL r ls = ls := by unfold withL thereR; rw [if_pos (by simp [ht.1, ht.2])]
      rw [e3] at h
      have hf := (lock_good (good_mem hg (lk_mem ht.1))).2.2.2.2.2.2.1
      rw [h] at hf
      simp at hf

/-- What the law FnAsks asks. -/
theorem asks_tell {ls : List Lock} (hg : locksFault ls = 0) {t r m : Int} (ht : inB t 1 999 = true) (hr : inB r 0 100 = true) (hm : inB m 1 5 = true) (hw : waitsB ls t = false) (h0 : (askAt ls t r m).2.1 = 0) :
    locksFault (askLs ls t r m) = 0 ∧
    ((askAt ls t r m).1 = true → waitsB (askLs ls t r m) t = false ∧ covers (modeL (askLs ls t r m) t r) m = true) ∧
    ((askAt ls t r m).1 = false → waitsB (askLs ls t r m) t = true ∧ waitsL (askLs ls t r m) t = r ∧ modeL (askLs ls t r m) t r = modeL ls t r) ∧
    (∀ s, s ≠ t → modeL (askLs ls t r m) s r = modeL ls s r ∧ waitsB (askLs ls t r m) s = waitsB ls s ∧ waitsL (askLs ls t r m) s = waitsL ls s) := by
  have hG := ask_good hg ht hr hm hw h0
  have hpl := (with_len r ls).1
  have hno : ∀ x ∈ ls, hasH x.qs t = false := by
    rcases waits_case ls t with h | ⟨x, hx, h⟩
    · exact h
    · rw [(waits_by (locks_good hg).2 hx h).1] at hw; cases hw
  have hl : Gd (lkAt (withL r ls) (placeR r ls)) ∧ hasH (lkAt (withL r ls) (placeR r ls)).qs t = false := by
    rcases with_mem (lk_mem hpl) with h | h
    · exact ⟨Gd.of (good_mem hg h), hno _ h⟩
    · rw [h]; exact ⟨Gd.new r, rfl⟩
  obtain ⟨T1, T2, T3⟩ := ask_tells1 hl.1 hm h0
  have hkey : ∀ j, lkAt (askLs ls t r m) j = if placeR r ls = j then (askAt ls t r m).2.2 else lkAt (withL r ls) j := fun j => by
    unfold askLs; exact lk_set _ _ _ _ hpl
  have hlen : (askLs ls t r m).length = (withL r ls).length := by unfold askLs; simp
  have hrr : (askAt ls t r m).2.2.r = r := (askOne_r _ _ _).trans (with_r r)
  have hmem : (askAt ls t r m).2.2 ∈ askLs ls t r m := by
    have := lk_mem (ls := askLs ls t r m) (i := placeR r ls) (by omega)
    rw [hkey, if_pos rfl] at this
    exact this
  have hmode : ∀ s, modeL (askLs ls t r m) s r = modeH (askAt ls t r m).2.2.hs s := fun s => by
    have := modeL_mem hG hmem s
    rw [hrr] at this
    exact this
  have h2 := (locks_good hG).2
  have hsplit : ∀ x ∈ askLs ls t r m, x = (askAt ls t r m).2.2 ∨ x ∈ ls := by
    intro x hx
    obtain ⟨j, hj, rfl⟩ := mem_lk hx
    rw [hkey]
    split
    · exact .inl rfl
    · next e => exact .inr (with_other (by omega) fun e' => e e'.symm)
  refine ⟨hG, fun hgr => ?_, fun hgr => ?_, fun s hs => ?_⟩
  · obtain ⟨eq, hc⟩ := T1 hgr
    refine ⟨(waits_none fun x hx => ?_).1, by rw [hmode]; exact hc⟩
    rcases hsplit x hx with rfl | hx
    · show hasH (askOne _ t m).2.2.qs t = false
      rw [eq]; exact hl.2
    · exact hno x hx
  · obtain ⟨eh, hq⟩ := T2 hgr
    obtain ⟨w1, w2⟩ := waits_by h2 hmem hq
    refine ⟨w1, w2.trans hrr, ?_⟩
    rw [hmode, mode_with hg]
    show modeH (askOne _ t m).2.2.hs t = _
    rw [eh]
  · obtain ⟨em, eq⟩ := T3 s hs
    refine ⟨?_, ?_⟩
    · rw [hmode, mode_with hg]; exact em
    · rcases waits_case ls s with hn | ⟨x, hx, hxs⟩
      · obtain ⟨a1, a2⟩ := waits_none hn
        obtain ⟨b1, b2⟩ := waits_none (ls := askLs ls t r m) (v := s) fun x hx => by
          rcases hsplit x hx with rfl | hx
          · show hasH (askOne _ t m).2.2.qs s = false
            rw [eq]
            rcases with_mem (lk_mem hpl) with h | h
            · exact hn _ h
            · rw [h]; rfl
          · exact hn x hx
        rw [a1, a2, b1, b2]; exact ⟨rfl, rfl⟩
      · obtain ⟨a1, a2⟩ := waits_by (locks_good hg).2 hx hxs
        rw [a1, a2]
        obtain ⟨j, hj, ej⟩ := mem_lk (mem_with (r := r) hx)
        have hj' : j < (askLs ls t r m).length := by omega
        by_cases e : placeR r ls = j
        · subst e
          have hq : hasH (askAt ls t r m).2.2.qs s = true := by
            show hasH (askOne _ t m).2.2.qs s = true
            rw [eq, ej]; exact hxs
          obtain ⟨b1, b2⟩ := waits_by h2 hmem hq
          refine ⟨b1, b2.trans (hrr.trans ?_)⟩
          rw [← ej]; exact (with_r r).symm
        · have hx' := lk_mem hj'
          rw [hkey, if_neg e, ej] at hx'
          exact waits_by h2 hx' hxs
end Go.Proofs.Ytjagobcogkdfhaa.Ch

