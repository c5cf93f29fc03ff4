
/- Plain: what asking keeps (begun). -/
import Derived.Test.YtjagobcogkdfhaaAskM
namespace Go.Proofs.Ytjagobcogkdfhaa.Ch
theorem fits_swap (a b : Int) : fits a b = fits b a := by
  cases ha : isM a
  · simp [fits, ha]
  cases hb : isM b
  · simp [fits, hb]
  rcases mode_cases ha with rfl | rfl | rfl | rfl | rfl | rfl
  all_goals rcases mode_cases hb with rfl | rfl | rfl | rfl | rfl | rfl
  all_goals rfl
theorem fits_down {a c x : Int} (h : covers c a = true) (hx : fits c x = true) : fits a x = true := by
  have h1 : isM c = true ∧ isM a = true := by simp [covers] at h; exact ⟨h.1.1, h.1.2⟩
  have h2 : isM x = true := by simp [fits] at hx; exact hx.1.2
  obtain ⟨hc, ha⟩ := h1
  rcases mode_cases hc with rfl | rfl | rfl | rfl | rfl | rfl
  all_goals rcases mode_cases ha with rfl | rfl | rfl | rfl | rfl | rfl
  all_goals first | exact absurd h (by decide) | skip
  all_goals rcases mode_cases h2 with rfl | rfl | rfl | rfl | rfl | rfl
  all_goals first | rfl | exact absurd hx (by decide)
theorem join_covers {a b : Int} (ha : isM a = true) (hb : isM b = true) : covers (join a b) a = true ∧ covers (join a b) b = true := by
  rcases mode_cases ha with rfl | rfl | rfl | rfl | rfl | rfl
  all_goals rcases mode_cases hb with rfl | rfl | rfl | rfl | rfl | rfl
  all_goals exact ⟨rfl, rfl⟩
theorem join_ne {a b : Int} (ha : isM a = true) (hb : isM b = true) (h : covers a b = false) : join a b ≠ a := by
  intro e
  have := (join_covers ha hb).2
  rw [e, h] at this; cases this
theorem join_held {a b : Int} (ha : isM a = true) (hb : inB b 1 5 = true) : inB (join a b) 1 5 = true := by
  simp only [inB, Bool.and_eq_true, decide_eq_true_eq] at hb
  obtain rfl | rfl | rfl | rfl | rfl : b = 1 ∨ b = 2 ∨ b = 3 ∨ b = 4 ∨ b = 5 := by omega
  all_goals rcases mode_cases ha with rfl | rfl | rfl | rfl | rfl | rfl
  all_goals rfl
theorem hasH_snoc (l : List Hold) (h : Hold) (t : Int) : hasH (l ++ [h]) t = (hasH l t || h.t == t) := by simp [hasH]
theorem hasH_mem {l : List Hold} {t : Int} : hasH l t = true ↔ ∃ h ∈ l, h.t = t := by simp [hasH]
theorem hasH_not {l : List Hold} {t : Int} : hasH l t = false ↔ ∀ h ∈ l, h.t ≠ t := by
  rw [← Bool.not_eq_true, hasH_mem]; simp
/-- Among holds without two of one transaction the mode is told by the one that is there. -/
theorem modeH_mem {l : List Hold} (h2 : twice l = false) {h : Hold} (hm : h ∈ l) : modeH l h.t = h.m := by
  rw [twice_pair] at h2
  rcases atH_cases l h.t with ⟨he, _, _⟩ | ⟨k, hk, _, _, ht, hmm⟩
  · exact absurd rfl (hasH_not.1 he h hm)
  · rw [hmm]
    obtain ⟨i, hi, rfl⟩ := List.mem_iff_getElem.1 hm
    rw [List.getD_eq_getElem?_getD, List.getElem?_eq_getElem hk] at ht ⊢
    simp only [Option.getD_some] at ht ⊢
    rcases Nat.lt_trichotomy k i with hki | hki | hki
    · exact absurd ht (List.pairwise_iff_getElem.1 h2 k i hk hi hki)
    · subst hki; rfl
    · exact absurd ht.symm (List.pairwise_iff_getElem.1 h2 i k hi hk hki)
theorem putH_mem {hs : List Hold} {h x : Hold} (h2 : twice hs = false) : x ∈ putH hs h ↔ x = h ∨ (x ∈ hs ∧ x.t ≠ h.t) := by
  rw [twice_pair] at h2
  rcases atH_cases hs h.t with ⟨he, ha, _⟩ | ⟨k, hk, ha, he, ht, _⟩
  · rw [putH_no he, List.mem_append, List.mem_singleton]
    constructor
    · rintro (hx | hx)
      · exact .inr ⟨hx, hasH_not.1 he x hx⟩
      · exact .inl hx
    · rintro (hx | ⟨hx, _⟩)
      · exact .inr hx
      · exact .inl hx
  · rw [putH_yes he ha]
    rw [List.getD_eq_getElem?_getD, List.getElem?_eq_getElem hk, Option.getD_some] at ht
    constructor
    · intro hx
      obtain ⟨i, hi, rfl⟩ := List.mem_iff_getElem.1 hx
      rw [List.getElem_set]
      split
      · exact .inl rfl
      · next hki =>
        have hi' : i < hs.length := by simpa using hi
        refine .inr ⟨List.getElem_mem hi', fun e => ?_⟩
        rcases Nat.lt_trichotomy k i with h3 | h3 | h3
        · exact List.pairwise_iff_getElem.1 h2 k i hk hi' h3 (ht.trans e.symm)
        · exact hki h3
        · exact List.pairwise_iff_getElem.1 h2 i k hi' hk h3 (e.trans ht.symm)
    · rintro (rfl | ⟨hx, hne⟩)
      · exact List.mem_iff_getElem.2 ⟨k, by simpa using hk, by simp⟩
      · obtain ⟨i, hi, rfl⟩ := List.mem_iff_getElem.1 hx
        have hki : k ≠ i := fun e => by subst e; exact hne ht
        exact List.mem_iff_getElem.2 ⟨i, by simpa using hi, by rw [List.getElem_set_ne hki]⟩
theorem lksGo_of {ls : List Lock} (n k : Nat) (h1 : ∀ i, k ≤ i → i < k + n → lkOne ls i = 0) (h2 : twice (waiters ls) = false) : lksGo ls n k = 0 := by
  induction n generalizing k with
  | zero => unfold lksGo; rw [h2]; rfl
  | succ n ih =>
    unfold lksGo
    rw [if_neg (by simp [h1 k (Nat.le_refl _) (by omega)])]
    exact ih _ fun i hi hj => h1 i (by omega) (by omega)
/-- Locks that have no fault, put together. -/
theorem locks_of {ls : List Lock} (h1 : ∀ i, i < ls.length → 0 ≤ (lkAt ls i).r ∧ (lkAt ls i).r ≤ 100 ∧ (0 < i → (lkAt ls (i - 1)).r < (lkAt ls i).r) ∧ lockFault (lkAt ls i) = 0) (h2 : twice (waiters ls) = false) : locksFault ls = 0 := by
  refine lksGo_of _ _ (fun i _ hi => ?_) h2
  obtain ⟨a, b, c, d⟩ := h1 i (by omega)
  rw [lkOne_own (by simp [inB]; omega) (fun ⟨h0, hl⟩ => by have := c h0; omega)]
  exact d
/-- A lock that has no fault, put together. -/
theorem lock_of {l : Lock} (h1 : l.hs.length ≤ 20) (h2 : l.qs.length ≤ 20) (h3 : namesH l.hs = true) (h4 : namesH l.qs = true) (h5 : twice l.hs = false) (h6 : twice l.qs = false) (h7 : 0 < l.hs.length + l.qs.length) (h8 : allFit' l.hs = true) (h9 : qOk l.hs l.qs = true) (h10 : headFits l.hs l.qs = false) : lockFault l = 0 := by
  refine lock_ok (by omega) (by rw [h3, h4]; rfl) (by rw [h5, h6]; rfl) ?_
  rw [h8, h9, h10, show (l.hs.length + l.qs.length == 0) = false by rw [beq_eq_false_iff_ne]; omega]
  rfl
theorem twice_nodup (l : List Hold) : twice l = false ↔ (l.map (·.t)).Nodup := by
  rw [twice_pair, List.Nodup, List.pairwise_map]
theorem putH_twice {hs : List Hold} (h2 : twice hs = false) (h : Hold) : twice (putH hs h) = false := by
  rw [twice_nodup] at h2 ⊢
  rcases atH_cases hs h.t with ⟨he, ha, _⟩ | ⟨k, hk, ha, he, ht, _⟩
  · rw [putH_no he, List.map_append, List.nodup_append]
    refine ⟨h2, by simp, fun a ha b hb e => ?_⟩
    obtain ⟨x, hx, rfl⟩ := List.mem_map.1 ha
    simp at hb
    exact hasH_not.1 he x hx (e.trans hb)
  · rw [putH_yes he ha, List.map_set]
    rw [List.getD_eq_getElem?_getD, List.getElem?_eq_getElem hk, Option.getD_some] at ht
    have e : (hs.map (·.t)).set k h.t = hs.map (·.t) := by
      rw [← ht]
      have := List.set_getElem_self (as := hs.map (·.t)) (i := k) (by simpa using hk)
      simpa using this
    rw [e]; exact h2
theorem putH_has {hs : List Hold} (h2 : twice hs = false) (h : Hold) (s : Int) : hasH (putH hs h) s = (hasH hs s || h.t == s) := by
  rw [Bool.eq_iff_iff, hasH_mem, Bool.or_eq_true, hasH_mem, beq_iff_eq]
  constructor
  · rintro ⟨x, hx, rfl⟩
    rcases (putH_mem h2).1 hx with rfl | ⟨hx, _⟩
    · exact .inr rfl
    · exact .inl ⟨x, hx, rfl⟩
  · rintro (⟨x, hx, rfl⟩ | rfl)
    · by_cases e : x.t = h.t
      · exact ⟨h, (putH_mem h2).2 (.inl rfl), e.symm⟩
      · exact ⟨x, (putH_mem h2).2 (.inr ⟨hx, e⟩), rfl⟩
    · exact ⟨h, (putH_mem h2).2 (.inl rfl), rfl⟩
theorem putH_mode {hs : List Hold} (h2 : twice hs = false) (h : Hold) {s : Int} (hs' : s ≠ h.t) : modeH (putH hs h) s = modeH hs s := by
  have hne : (h.t == s) = false := by rw [beq_eq_false_iff_ne]; exact fun e => hs' e.symm
  cases hh : hasH hs s
  · have h1 : hasH (putH hs h) s = false := by rw [putH_has h2, hh, hne]; rfl
    unfold modeH; rw [hh, h1]; rfl
  · obtain ⟨x, hx, rfl⟩ := hasH_mem.1 hh
    rw [modeH_mem h2 hx, modeH_mem (putH_twice h2 h) ((putH_mem h2).2 (.inr ⟨hx, hs'⟩))]
theorem putH_own {hs : List Hold} (h2 : twice hs = false) (h : Hold) : modeH (putH hs h) h.t = h.m :=
  modeH_mem (putH_twice h2 h) ((putH_mem h2).2 (.inl rfl))
theorem fitsH_all {l : List Hold} {t m : Int} : fitsH l t m = true ↔ ∀ y ∈ l, y.t = t ∨ fits y.m m = true := by simp [fitsH]
theorem allFit_all {l : List Hold} : allFit' l = true ↔ ∀ x ∈ l, ∀ y ∈ l, y.t = x.t ∨ fits y.m x.m = true := by simp [allFit', fitsH]
theorem putH_fit {hs : List Hold} (h2 : twice hs = false) (ha : allFit' hs = true) {h : Hold} (hf : fitsH hs h.t h.m = true) : allFit' (putH hs h) = true := by
  rw [allFit_all] at ha ⊢
  rw [fitsH_all] at hf
  intro x hx y hy
  rcases (putH_mem h2).1 hx with ex | ⟨hx1, nx⟩ <;> rcases (putH_mem h2).1 hy with ey | ⟨hy1, ny⟩
  · subst ex; exact .inl (by rw [ey])
  · subst ex; exact hf y hy1
  · subst ey
    rcases hf x hx1 with e | e
    · exact .inl e.symm
    · exact .inr (by rw [fits_swap]; exact e)
  · exact ha x hx1 y hy1
theorem conv_same {hs hs' qs : List Hold} (h : ∀ q ∈ qs, hasH hs' q.t = hasH hs q.t) : convH hs' qs = convH hs qs := by
  induction qs with
  | nil => rfl
  | cons q qs ih =>
    unfold convH
    rw [h q (by simp), ih fun x hx => h x (by simp [hx])]
theorem qOk_same {hs hs' qs : List Hold} (h : ∀ q ∈ qs, hasH hs' q.t = hasH hs q.t ∧ modeH hs' q.t = modeH hs q.t) : qOk hs' qs = qOk hs qs := by
  have hc := conv_same (hs := hs) (hs' := hs') (qs := qs) fun q hq => (h q hq).1
  rw [Bool.eq_iff_iff, qOk, qOk, range_all, range_all]
  have hstep : ∀ i, i < qs.length → qStep hs' qs i = qStep hs qs i := by
    intro i hi
    have hm : qs.getD i Hold.zero ∈ qs := by rw [List.getD_eq_getElem?_getD, List.getElem?_eq_getElem hi]; exact List.getElem_mem hi
    obtain ⟨a, b⟩ := h _ hm
    unfold qStep
    rw [a, b, hc]
  exact ⟨fun k i hi => (hstep i hi).symm.trans (k i hi), fun k i hi => (hstep i hi).trans (k i hi)⟩
/-- All that a lock without a fault is, but for being used. -/
structure Gd (l : Lock) : Prop where
  hl : l.hs.length ≤ 20
  ql : l.qs.length ≤ 20
  hn : namesH l.hs = true
  qn : namesH l.qs = true
  h2 : twice l.hs = false
  q2 : twice l.qs = false
  fit : allFit' l.hs = true
  ord : qOk l.hs l.qs = true
  head : headFits l.hs l.qs = false
theorem Gd.of {l : Lock} (h : lockFault l = 0) : Gd l := by
  obtain ⟨a, b, c, d, e, f, _, g, i, j⟩ := lock_good h
  exact ⟨a, b, c, d, e, f, g, i, j⟩
theorem Gd.new (r : Int) : Gd ⟨r, [], []⟩ := ⟨by simp, by simp, rfl, rfl, rfl, rfl, rfl, rfl, rfl⟩
theorem Gd.good {l : Lock} (h : Gd l) (hp : 0 < l.hs.length + l.qs.length) : lockFault l = 0 := lock_of h.hl h.ql h.hn h.qn h.h2 h.q2 hp h.fit h.ord h.head
theorem putH_lenY {hs : List Hold} {h : Hold} (hh : hasH hs h.t = true) : (putH hs h).length = hs.length := by
  unfold putH; rw [if_pos hh]; simp
theorem putH_lenN {hs : List Hold} {h : Hold} (hh : hasH hs h.t = false) : (putH hs h).length = hs.length + 1 := by
  rw [putH_no hh]; simp
/-- One gets what it asks for: a new hold where nobody waits, or a greater mode. -/
theorem Gd.put {l : Lock} (g : Gd l) {h : Hold} (hn : nameH h = true) (hf : fitsH l.hs h.t h.m = true) (hw : hasH l.qs h.t = false) (hr : hasH l.hs h.t = true ∨ l.hs.length < 20)
    (hc : (hasH l.hs h.t = true ∧ covers h.m (modeH l.hs h.t) = true) ∨ l.qs = []) : Gd ⟨l.r, putH l.hs h, l.qs⟩ := by
  have hq : ∀ q ∈ l.qs, hasH (putH l.hs h) q.t = hasH l.hs q.t ∧ modeH (putH l.hs h) q.t = modeH l.hs q.t := by
    intro q hm
    have hne : q.t ≠ h.t := hasH_not.1 hw q hm
    refine ⟨?_, putH_mode g.h2 h hne⟩
    rw [putH_has g.h2, show (h.t == q.t) = false by rw [beq_eq_false_iff_ne]; exact fun e => hne e.symm, Bool.or_false]
  refine ⟨?_, g.ql, putH_names g.hn hn, g.qn, putH_twice g.h2 h, g.q2, putH_fit g.h2 g.fit hf, (qOk_same hq).trans g.ord, ?_⟩
  · cases hh : hasH l.hs h.t
    · rw [putH_lenN hh]
      rcases hr with hr | hr
      · rw [hh] at hr; cases hr
      · omega
    · rw [putH_lenY hh]; exact g.hl
  · rcases hc with ⟨hh, hcv⟩ | he
    · rcases Nat.eq_zero_or_pos l.qs.length with h0 | h0
      · have : l.qs = [] := List.length_eq_zero_iff.1 h0
        simp only [this]; rfl
      · have hh1 := g.head
        simp only
        rw [headFits_pos h0] at hh1 ⊢
        have hm : l.qs.getD 0 Hold.zero ∈ l.qs := by rw [List.getD_eq_getElem?_getD, List.getElem?_eq_getElem h0]; exact List.getElem_mem h0
        rw [(hq _ hm).1, putH_lenY hh]
        cases hb : (hasH l.hs (l.qs.getD 0 Hold.zero).t || decide (l.hs.length < 20))
        · rfl
        · rw [hb, Bool.true_and] at hh1
          rw [Bool.true_and]
          rw [← Bool.not_eq_true] at hh1 ⊢
          refine fun hx => hh1 (fitsH_all.2 fun y hy => ?_)
          rw [fitsH_all] at hx
          by_cases e : y.t = h.t
          · rcases hx h ((putH_mem g.h2).2 (.inl rfl)) with e2 | e2
            · exact absurd e2.symm (hasH_not.1 hw _ hm)
            · refine .inr (fits_down ?_ e2)
              rw [← e, modeH_mem g.h2 hy] at hcv
              exact hcv
          · exact hx y ((putH_mem g.h2).2 (.inr ⟨hy, e⟩))
    · simp only [he]; rfl
theorem names_all {l : List Hold} : namesH l = true ↔ ∀ x ∈ l, nameH x = true := by simp [namesH]
theorem conv_snoc {hs : List Hold} {h : Hold} (hh : hasH hs h.t = false) (qs : List Hold) : convH hs (qs ++ [h]) = convH hs qs := by
  induction qs with
  | nil => simp [convH, hh]
  | cons q qs ih =>
    rw [List.cons_append]
    unfold convH
    rw [ih]
theorem getD_snoc (qs : List Hold) (h : Hold) {i : Nat} (hi : i < qs.length) : (qs ++ [h]).getD i Hold.zero = qs.getD i Hold.zero := by
  rw [List.getD_eq_getElem?_getD, List.getD_eq_getElem?_getD, List.getElem?_append_left hi]
theorem getD_last (qs : List Hold) (h : Hold) : (qs ++ [h]).getD qs.length Hold.zero = h := by
  rw [List.getD_eq_getElem?_getD, List.getElem?_append_right (Nat.le_refl _)]; simp
/-- One waits behind all others. -/
theorem Gd.last {l : Lock} (g : Gd l) {h : Hold} (hn : nameH h = true) (hh : hasH l.hs h.t = false) (hw : hasH l.qs h.t = false) (hl : l.qs.length < 20) (hf : fitsH l.hs h.t h.m = false ∨ 0 < l.qs.length) : Gd ⟨l.r, l.hs, l.qs ++ [h]⟩ := by
  refine ⟨g.hl, by simp; omega, g.hn, ?_, g.h2, ?_, g.fit, ?_, ?_⟩
  · rw [names_all]
    intro x hx
    rcases List.mem_append.1 hx with hx | hx
    · exact names_all.1 g.qn x hx
    · rw [List.mem_singleton.1 hx]; exact hn
  · have := putH_twice g.q2 h
    rw [putH_no hw] at this; exact this
  · refine qOk_true fun i hi => ?_
    simp only [List.length_append, List.length_singleton] at hi
    by_cases hlt : i < l.qs.length
    · have := range_all.1 g.ord i hlt
      unfold qStep at this ⊢
      rw [getD_snoc _ _ hlt, conv_snoc hh]
      exact this
    · obtain rfl : i = l.qs.length := by omega
      exact qStep_no (by rw [getD_last]; exact hh)
  · rw [headFits_pos (by simp)]
    rcases Nat.eq_zero_or_pos l.qs.length with h0 | h0
    · have e : l.qs = [] := List.length_eq_zero_iff.1 h0
      rcases hf with hf | hf
      · simp only [e, List.nil_append, List.getD_cons_zero]
        rw [hf, Bool.and_false]
      · omega
    · have := g.head
      rw [headFits_pos h0] at this
      simp only
      rw [getD_snoc _ _ h0]
      exact this
theorem getD_ins (qs : List Hold) (h : Hold) (k i : Nat) (hk : k ≤ qs.length) : (qs.take k ++ [h] ++ qs.drop k).getD i Hold.zero = if i < k then qs.getD i Hold.zero else if i = k then h else qs.getD (i - 1) Hold.zero := by
  simp only [List.getD_eq_getElem?_getD]
  have hlen : (qs.take k).length = k := by simp; omega
  split
  · next h1 => rw [List.append_assoc, List.getElem?_append_left (by omega), List.getElem?_take_of_lt h1]
  · next h1 =>
    split
    · next h2 => subst h2; rw [List.append_assoc, List.getElem?_append_right (by omega), hlen]; simp
    · next h2 =>
      rw [List.getElem?_append_right (by simp; omega)]
      simp only [List.length_append, hlen, List.length_singleton, List.getElem?_drop]
      congr 2; omega
/-- One that converts waits behind all that do, ahead of all others. -/
theorem Gd.behind {l : Lock} (g : Gd l) {h : Hold} (hn : nameH h = true) (hh : hasH l.hs h.t = true) (hw : hasH l.qs h.t = false) (hl : l.qs.length < 20) (hf : fitsH l.hs h.t h.m = false) (hm : h.m ≠ modeH l.hs h.t) (hc : covers h.m (modeH l.hs h.t) = true) :
    Gd ⟨l.r, l.hs, l.qs.take (convH l.hs l.qs) ++ [h] ++ l.qs.drop (convH l.hs l.qs)⟩ := by
  have hle := conv_le l.hs l.qs
  have hlen : (l.qs.take (convH l.hs l.qs) ++ [h] ++ l.qs.drop (convH l.hs l.qs)).length = l.qs.length + 1 := by simp; omega
  have hcv : convH l.hs (l.qs.take (convH l.hs l.qs) ++ [h] ++ l.qs.drop (convH l.hs l.qs)) = convH l.hs l.qs + 1 := by
    refine conv_is (by omega) (fun j hj => ?_) (fun hj => ?_)
    · rw [getD_ins _ _ _ _ hle]
      split
      · next h1 => exact conv_lt _ _ h1
      · rw [if_pos (by omega)]; exact hh
    · rw [getD_ins _ _ _ _ hle, if_neg (by omega), if_neg (by omega), Nat.add_sub_cancel]
      exact conv_at _ _ (by omega)
  refine ⟨g.hl, by simp only [hlen]; omega, g.hn, ?_, g.h2, ?_, g.fit, ?_, ?_⟩
  · rw [names_all]
    intro x hx
    simp only [List.mem_append, List.mem_singleton] at hx
    rcases hx with (hx | hx) | hx
    · exact names_all.1 g.qn x (List.mem_of_mem_take hx)
    · rw [hx]; exact hn
    · exact names_all.1 g.qn x (List.mem_of_mem_drop hx)
  · have h2 := g.q2
    simp only
    rw [twice_nodup] at h2 ⊢
    rw [List.append_assoc, List.singleton_append, List.map_append, List.map_cons]
    rw [List.perm_middle.nodup_iff, ← List.map_append, List.take_append_drop, List.nodup_cons]
    refine ⟨fun hx => ?_, h2⟩
    obtain ⟨x, hx, e⟩ := List.mem_map.1 hx
    exact hasH_not.1 hw x hx e
  · refine qOk_true fun i hi => ?_
    simp only at hi ⊢
    rw [hlen] at hi
    by_cases h1 : i < convH l.hs l.qs
    · have := range_all.1 g.ord i (by omega)
      unfold qStep at this ⊢
      rw [conv_lt _ _ h1, if_pos rfl, Bool.and_eq_true] at this
      rw [getD_ins _ _ _ _ hle, if_pos h1, conv_lt _ _ h1, if_pos rfl, hcv, decide_eq_true (show i < convH l.hs l.qs + 1 by omega), Bool.true_and]
      exact this.2
    · by_cases h2 : i = convH l.hs l.qs
      · have e : (l.qs.take (convH l.hs l.qs) ++ [h] ++ l.qs.drop (convH l.hs l.qs)).getD i Hold.zero = h := by rw [getD_ins _ _ _ _ hle, if_neg h1, if_pos h2]
        exact qStep_ok (by rw [hcv]; omega) (by rw [e]; exact hm) (by rw [e]; exact hc)
      · refine qStep_no ?_
        rw [getD_ins _ _ _ _ hle, if_neg h1, if_neg h2]
        cases hx : hasH l.hs (l.qs.getD (i - 1) Hold.zero).t
        · rfl
        · have := range_all.1 g.ord (i - 1) (by omega)
          rw [qStep_late hx (by omega)] at this
          cases this
  · rw [headFits_pos (by simp only [hlen]; omega)]
    simp only
    rw [getD_ins _ _ _ _ hle]
    by_cases h0 : 0 < convH l.hs l.qs
    · rw [if_pos h0]
      have := g.head
      rw [headFits_pos (by omega)] at this
      exact this
    · rw [if_neg h0, if_pos (by omega), hf, Bool.and_false]
end Go.Proofs.Ytjagobcogkdfhaa.Ch
