
/- Plain facts of FnSets and FnUndos: what a key has behind a change, and behind what is taken back. -/
import Derived.Test.YthfanfnbjldddaaUndM
import Derived.Test.YthfanfnbjldddaaMapM
namespace Go.Proofs.Ythfanfnbjldddaa.Ch

theorem has_set {ls : List (List Row)} {tx key v : Int} {h : Bool} (hf : setF ls tx [⟨key, h, v⟩] = 0) (hs : (setLs ls key h v).1 = 0) (k : Int) :
    Ch.has (setLs ls key h v).2 k = if k = key then (if h then some v else none) else Ch.has ls k := by
  obtain ⟨hg, _, hk, hv, h0⟩ := setF_zero hf
  cases h
  · cases hfr : findR ls key with
    | none =>
      rw [setLs_none hfr]
      by_cases hkk : k = key
      · subst hkk; rw [if_pos rfl]; simp [Ch.has, hfr]
      · rw [if_neg hkk]
    | some r =>
      have e : setLs ls key false v = (0, put ls ⟨key, 0, true⟩) := by unfold setLs; rw [hfr]; rfl
      rw [e]
      by_cases hkk : k = key
      · subst hkk
        have := put_find (r := ⟨k, 0, true⟩) hg
        simp only at this
        rw [if_pos rfl]
        simp [Ch.has, this]
      · rw [if_neg hkk]
        unfold Ch.has
        rw [put_find_other hg hkk]
  · have e : setLs ls key true v = (0, put ls ⟨key, v, false⟩) := by
      unfold setLs at hs ⊢
      rw [if_pos rfl] at hs ⊢
      by_cases hm : 60 < (put ls ⟨key, v, false⟩).length
      · rw [if_pos hm] at hs; cases hs
      · rw [if_neg hm]
    rw [e]
    by_cases hkk : k = key
    · subst hkk
      have := put_find (r := ⟨k, v, false⟩) hg
      simp only at this
      rw [if_pos rfl]
      simp [Ch.has, this]
    · rw [if_neg hkk]
      unfold Ch.has
      rw [put_find_other hg hkk]
/-- A key that has a row has one behind a change. -/
theorem find_set {ls : List (List Row)} {tx key v : Int} {h : Bool} (hf : setF ls tx [⟨key, h, v⟩] = 0) (hs : (setLs ls key h v).1 = 0) (k : Int) (hx : (findR ls k).isSome = true) : (findR (setLs ls key h v).2 k).isSome = true := by
  obtain ⟨hg, _, hk, hv, h0⟩ := setF_zero hf
  cases h
  · cases hfr : findR ls key with
    | none => rw [setLs_none hfr]; exact hx
    | some r =>
      have e : setLs ls key false v = (0, put ls ⟨key, 0, true⟩) := by unfold setLs; rw [hfr]; rfl
      rw [e]
      by_cases hkk : k = key
      · subst hkk
        have := put_find (r := ⟨k, 0, true⟩) hg
        simp only at this
        simp [this]
      · simp only; rw [put_find_other hg hkk]; exact hx
  · have e : setLs ls key true v = (0, put ls ⟨key, v, false⟩) := by
      unfold setLs at hs ⊢
      rw [if_pos rfl] at hs ⊢
      by_cases hm : 60 < (put ls ⟨key, v, false⟩).length
      · rw [if_pos hm] at hs; cases hs
      · rw [if_neg hm]
    rw [e]
    by_cases hkk : k = key
    · subst hkk
      have := put_find (r := ⟨k, v, false⟩) hg
      simp only at this
      simp [this]
    · simp only; rw [put_find_other hg hkk]; exact hx
theorem has_find {ls : List (List Row)} {key v : Int} (h : Ch.has ls key = some v) : (findR ls key).isSome = true := by
  unfold Ch.has at h
  cases hf : findR ls key with
  | none => rw [hf] at h; cases h
  | some r => rfl
theorem has_range {ls : List (List Row)} (hg : leavesFault ls = 0) {key v : Int} (h : Ch.has ls key = some v) : inB v 0 9999 = true := by
  unfold Ch.has at h
  cases hf : findR ls key with
  | none => rw [hf] at h; cases h
  | some r =>
    rw [hf] at h
    simp only at h
    unfold findR at hf
    have hm := List.mem_of_find?_eq_some hf
    have hr := ((good_iff ls).1 hg).2.2.1 r hm
    by_cases hgh : r.g = true
    · rw [if_pos hgh] at h; cases h
    · rw [if_neg hgh] at h
      cases h
      unfold Row.fault rowFault at hr
      cases hv : inB r.v 0 9999
      · rw [hv] at hr
        simp at hr
      · rfl
theorem bf_fine' {ls : List (List Row)} (hg : leavesFault ls = 0) {key : Int} (hk : inB key 0 99 = true) : (bf key (Ch.has ls key)).fault = 0 := by
  cases h : Ch.has ls key with
  | none =>
    unfold bf Bf.fault
    simp [hk, show inB 0 0 9999 = true from by decide]
  | some v =>
    unfold bf Bf.fault
    simp [hk, has_range hg h]
theorem bf_key (key : Int) (o : Option Int) : (bf key o).k = key := by cases o <;> rfl
theorem bf_back (key : Int) (o : Option Int) : (if (bf key o).h then some (bf key o).v else none) = o := by cases o <;> rfl
theorem setF_of {ls : List (List Row)} {tx : Int} {bs : List Bf} (hg : leavesFault ls = 0) (ht : inB tx 1 999 = true) (hb : befFault bs = 0) : setF ls tx bs = 0 := by
  unfold setF
  rw [hg, if_neg (by decide), if_pos ht, hb]

theorem rows_same {a b : List Row} (ha : a.Pairwise fun x y => x.k < y.k) (hb : b.Pairwise fun x y => x.k < y.k) (h : ∀ x, x ∈ a ↔ x ∈ b) : a = b := by
  induction a generalizing b with
  | nil =>
    cases b with
    | nil => rfl
    | cons y b => exact absurd ((h y).2 (by simp)) (by simp)
  | cons x a ih =>
    cases b with
    | nil => exact absurd ((h x).1 (by simp)) (by simp)
    | cons y b =>
      rw [List.pairwise_cons] at ha hb
      have hxy : x = y := by
        rcases List.mem_cons.1 ((h x).1 (by simp)) with e | e
        · exact e
        · rcases List.mem_cons.1 ((h y).2 (by simp)) with e2 | e2
          · exact e2.symm
          · have h1 := hb.1 x e
            have h2 := ha.1 y e2
            omega
      subst hxy
      congr 1
      refine ih ha.2 hb.2 fun z => ?_
      constructor
      · intro hm
        rcases List.mem_cons.1 ((h z).1 (List.mem_cons_of_mem _ hm)) with e | e
        · subst e; have := ha.1 z hm; omega
        · exact e
      · intro hm
        rcases List.mem_cons.1 ((h z).2 (List.mem_cons_of_mem _ hm)) with e | e
        · subst e; have := hb.1 z hm; omega
        · exact e
/-- Which rows are no ghosts: those that a key has. -/
theorem noGhost_mem {ls : List (List Row)} (hg : leavesFault ls = 0) {r : Row} : r ∈ noGhost ls.flatten ↔ r.g = false ∧ Ch.has ls r.k = some r.v := by
  obtain ⟨_, _, _, hp⟩ := (good_iff ls).1 hg
  unfold noGhost
  rw [List.mem_filter]
  constructor
  · rintro ⟨hm, hng⟩
    have hng' : r.g = false := by simpa using hng
    refine ⟨hng', ?_⟩
    have hf : findR ls r.k = some r := by
      unfold findR
      rw [List.find?_eq_some_iff_append]
      obtain ⟨as_, bs_, e⟩ := List.append_of_mem hm
      refine ⟨by simp, as_, bs_, e, fun a ha => ?_⟩
      rw [e, List.pairwise_append] at hp
      have := hp.2.2 a ha r (by simp)
      simp
      omega
    unfold Ch.has
    rw [hf]
    simp [hng']
  · rintro ⟨hng, hh⟩
    unfold Ch.has at hh
    cases hf : findR ls r.k with
    | none => rw [hf] at hh; cases hh
    | some x =>
      rw [hf] at hh
      simp only at hh
      have hxk : x.k = r.k := by
        unfold findR at hf
        have := List.find?_some hf
        simpa using this
      have hxm : x ∈ ls.flatten := by unfold findR at hf; exact List.mem_of_find?_eq_some hf
      by_cases hgh : x.g = true
      · rw [if_pos hgh] at hh; cases hh
      · rw [if_neg hgh] at hh
        have hxg : x.g = false := by simpa using hgh
        have : x = r := by
          cases x; cases r
          simp at hxk hh hxg hng
          simp [hxk, hh, hxg, hng]
        subst this
        exact ⟨hxm, by simp [hng]⟩
theorem noGhost_same {ls ls' : List (List Row)} (hg : leavesFault ls = 0) (hg' : leavesFault ls' = 0) (h : ∀ k, Ch.has ls k = Ch.has ls' k) : noGhost ls.flatten = noGhost ls'.flatten := by
  refine rows_same (((good_iff ls).1 hg).2.2.2.filter _) (((good_iff ls').1 hg').2.2.2.filter _) fun r => ?_
  rw [noGhost_mem hg, noGhost_mem hg', h]
theorem flat_240 {ls : List (List Row)} (hg : leavesFault ls = 0) : ls.flatten.length ≤ 240 := by
  obtain ⟨h1, h2, _, _⟩ := (good_iff ls).1 hg
  have : ∀ (xs : List (List Row)), (∀ l ∈ xs, l.length ≤ 4) → xs.flatten.length ≤ 4 * xs.length := by
    intro xs
    induction xs with
    | nil => intro _; simp
    | cons x xs ih =>
      intro h
      have := ih (fun l hl => h l (List.mem_cons_of_mem _ hl))
      have := h x (List.mem_cons_self ..)
      simp at *; omega
  have := this ls (fun l hl => (h2 l hl).2)
  omega
theorem map_good {ls : List (List Row)} (hg : leavesFault ls = 0) : mapRR ls.flatten = (0, noGhost ls.flatten) := by
  obtain ⟨_, _, h3, h4⟩ := (good_iff ls).1 hg
  refine mapRR_ok ?_
  rw [mapF_rise (by have := flat_240 hg; omega) (each_zero h3)]
  unfold rise
  exact (rise_iff _ _).2 ⟨h3, h4, fun q hq => by cases hq⟩

/-- What is set, and then taken back. -/
theorem sets_tell {ls ls' : List (List Row)} {tx key v : Int} {h : Bool} {rs : List Rec} (hr : setR ls tx key h v = (0, ls', rs)) :
    leavesFault ls = 0 ∧ inB tx 1 999 = true ∧ inB key 0 99 = true ∧ inB v 0 9999 = true ∧ leavesFault ls' = 0 ∧ rs = [setRec 2 ls tx key h v] ∧ (h = false → v = 0) ∧ (∀ k, Ch.has ls' k = if k = key then (if h then some v else none) else Ch.has ls k) ∧
      ∃ ls'', undoR ls' tx [bf key (Ch.has ls key)] = (0, ls'', [setRec 3 ls' tx key (bf key (Ch.has ls key)).h (bf key (Ch.has ls key)).v]) ∧ leavesFault ls'' = 0 ∧ ∀ k, Ch.has ls'' k = Ch.has ls k := by
  by_cases hf : setF ls tx [⟨key, h, v⟩] = 0
  · by_cases hs : (setLs ls key h v).1 = 0
    · rw [setR_ok hf hs] at hr
      simp only [Prod.mk.injEq, true_and] at hr
      obtain ⟨rfl, rfl⟩ := hr
      obtain ⟨hg, ht, hk, hv, h0⟩ := setF_zero hf
      have hg' := setLs_good hf hs
      have hb := bf_fine' hg hk
      have hhs := has_set hf hs
      have hfs := find_set hf hs
      generalize (setLs ls key h v).2 = ls' at *
      refine ⟨hg, ht, hk, hv, hg', rfl, h0, hhs, ?_⟩
      have hbk := bf_key key (Ch.has ls key)
      have hbb := bf_back key (Ch.has ls key)
      have hbs : (bf key (Ch.has ls key)).h = true → (findR ls key).isSome = true := by
        intro e
        cases hh : Ch.has ls key with
        | none => rw [hh] at e; cases e
        | some x => exact has_find hh
      generalize bf key (Ch.has ls key) = b at *
      obtain ⟨bk, bh, bv⟩ := b
      simp only at hbk hbb hbs
      subst hbk
      have hF2 : setF ls' tx [⟨bk, bh, bv⟩] = 0 := setF_of hg' ht (by rw [bef_single]; exact hb)
      have hS2 : (setLs ls' bk bh bv).1 = 0 := by
        cases bh
        · unfold setLs
          simp only [Bool.false_eq_true, if_false]
          split <;> rfl
        · have h1 := hfs bk (hbs rfl)
          have h2 := put_stays hg' ⟨bk, bv, false⟩ h1
          have h3 := ((good_iff ls').1 hg').1
          unfold setLs
          rw [if_pos rfl, h2, if_neg (by omega)]
      have e1 : setR ls' tx bk bh bv = (0, (setLs ls' bk bh bv).2, [setRec 2 ls' tx bk bh bv]) := setR_ok hF2 hS2
      refine ⟨(setLs ls' bk bh bv).2, ?_, setLs_good hF2 hS2, fun k => ?_⟩
      · rw [undoR_ok hF2]
        show backOne tx (0, ls', []) ⟨bk, bh, bv⟩ = _
        rw [back_ok (b := ⟨bk, bh, bv⟩) (by simp only; rw [e1])]
        simp only [e1, List.nil_append]
      · rw [has_set hF2 hS2]
        by_cases hkk : k = bk
        · subst hkk; rw [if_pos rfl]; exact hbb
        · rw [if_neg hkk, hhs, if_neg hkk]
    · rw [setR_many hf rfl (by simpa using hs)] at hr
      simp only [Prod.mk.injEq] at hr
      exact absurd hr.1 hs
  · rw [setR_code rfl (by simpa using hf)] at hr
    simp only [Prod.mk.injEq] at hr
    exact absurd hr.1 hf
end Go.Proofs.Ythfanfnbjldddaa.Ch
