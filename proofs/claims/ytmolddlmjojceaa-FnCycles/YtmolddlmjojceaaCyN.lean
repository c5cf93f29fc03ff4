
/- Plain: what is told of a circle holds in its edges; without the one there is none through it. No Go in it. -/
import Derived.Test.YtmolddlmjojceaaCyM
namespace Go.Proofs.Ytmolddlmjojceaa

theorem Ch.edges_fine {es : List Ch.Hold} (h : Ch.edgesFault es = 0) : ∀ e ∈ es, Ch.badE e = false := by
  intro e he
  unfold Ch.edgesFault at h
  split at h
  · omega
  · split at h
    · omega
    · rename_i h1 h2
      cases hq : Ch.badE e
      · rfl
      · exact absurd (List.any_eq_true.2 ⟨e, he, hq⟩) h2
theorem Ch.edgesT_zero {es : List Ch.Hold} {t : Int} (h : Ch.edgesT es t = 0) : Ch.edgesFault es = 0 ∧ Ch.inB t 1 999 = true := by
  unfold Ch.edgesT at h
  by_cases h0 : Ch.edgesFault es = 0
  · refine ⟨h0, ?_⟩
    rw [h0] at h
    cases hq : Ch.inB t 1 999
    · rw [hq] at h; simp at h
    · rfl
  · rw [if_pos (by simpa using h0)] at h
    exact absurd h h0
theorem Ch.without_fine {es : List Ch.Hold} {t : Int} (h : Ch.edgesT es t = 0) : Ch.edgesT (Ch.withoutE es t) t = 0 := by
  obtain ⟨h1, h2⟩ := Ch.edgesT_zero h
  have hl : (Ch.withoutE es t).length ≤ es.length := List.length_filter_le ..
  have hf : Ch.edgesFault (Ch.withoutE es t) = 0 := by
    have hb : (Ch.withoutE es t).any Ch.badE = false := by
      rw [List.any_eq_false]
      intro e he
      rw [Ch.edges_fine h1 e (List.mem_filter.1 he).1]
      simp
    have h4 : es.length ≤ 400 := by
      unfold Ch.edgesFault at h1
      split at h1
      · omega
      · omega
    unfold Ch.edgesFault
    rw [if_neg (by omega), hb]
    rfl
  unfold Ch.edgesT
  rw [hf, h2]
  rfl
theorem Ch.without_none (es : List Ch.Hold) (t : Int) : Ch.cycM (Ch.prE (Ch.withoutE es t)) t = [] := by
  have hn : ∀ e ∈ Ch.prE (Ch.withoutE es t), e.1 = t → Ch.farN (Ch.prE (Ch.withoutE es t)) t (Ch.prE (Ch.withoutE es t)).length e.2 < 0 := by
    intro e he e1
    exfalso
    unfold Ch.prE at he
    obtain ⟨x, hx, rfl⟩ := List.mem_map.1 he
    have := (List.mem_filter.1 hx).2
    unfold Ch.keepE at this
    simp only at e1
    rw [e1] at this
    simp at this
  unfold Ch.cycM
  rw [show Ch.sizeM (Ch.prE (Ch.withoutE es t)) (Ch.farN (Ch.prE (Ch.withoutE es t)) t (Ch.prE (Ch.withoutE es t)).length) t = -1 from Ch.size_none _ hn, if_pos (by omega)]
/-- All that the law asks of a circle that is told. -/
theorem Ch.cyc_tells {es : List Ch.Hold} {t : Int} (h : Ch.edgesT es t = 0) (h2 : ¬ (Ch.cycM (Ch.prE es) t).length = 0) :
    2 ≤ (Ch.cycM (Ch.prE es) t).length ∧ (Ch.cycM (Ch.prE es) t).getD 0 0 = t ∧ Ch.hasR es = true ∧
    (∀ i, i < (Ch.cycM (Ch.prE es) t).length → (⟨(Ch.cycM (Ch.prE es) t).getD i 0, (Ch.cycM (Ch.prE es) t).getD ((i + 1) % (Ch.cycM (Ch.prE es) t).length) 0⟩ : Ch.Hold) ∈ es) ∧
    (∀ i, i < (Ch.cycM (Ch.prE es) t).length → ((Ch.cycM (Ch.prE es) t).take i).contains ((Ch.cycM (Ch.prE es) t).getD i 0) = false) := by
  obtain ⟨hf, ht⟩ := Ch.edgesT_zero h
  have hfine := Ch.edges_fine hf
  obtain ⟨l, hl, hl0, hnd, hlk⟩ := Ch.cyc_is (es := Ch.prE es) (t := t) (fun e he => by
      unfold Ch.prE at he
      obtain ⟨x, hx, rfl⟩ := List.mem_map.1 he
      have := hfine x hx
      unfold Ch.badE Ch.inB at this
      simp only [Bool.or_eq_false_iff, Bool.not_eq_false', Bool.and_eq_true, decide_eq_true_eq] at this
      show 0 < x.m
      omega) (fun hm => by
      have := hfine _ (Ch.prE_mem.1 hm)
      unfold Ch.badE at this
      simp at this) h2
  have hat := Ch.Links.at l t hlk
  rw [hl]
  have hlen : (t :: l).length = l.length + 1 := rfl
  refine ⟨by rw [hlen]; omega, rfl, ?_, fun i hi => ?_, fun i hi => ?_⟩
  · have h0 := Ch.prE_mem.1 (hat 0 (by omega))
    unfold Ch.hasR
    rw [hf]
    simp only [beq_self_eq_true, Bool.true_and]
    refine List.any_eq_true.2 ⟨_, h0, ?_⟩
    have hq : (Ch.cycM (Ch.prE es) ((t :: l).getD 0 0)).length ≠ 0 := h2
    unfold Ch.hasC
    exact decide_eq_true (Nat.pos_of_ne_zero hq)
  · rw [hlen] at hi ⊢
    have := Ch.prE_mem.1 (hat i hi)
    rcases Nat.lt_or_ge (i + 1) (l.length + 1) with hlt | hge
    · rw [Nat.mod_eq_of_lt hlt]
      have e4 : ((t :: l) ++ [t]).getD (i + 1) 0 = (t :: l).getD (i + 1) 0 := by
        unfold List.getD
        rw [List.getElem?_append_left (by simpa using hlt)]
      rw [e4] at this
      exact this
    · have e1 : i + 1 = l.length + 1 := by omega
      rw [e1, Nat.mod_self]
      rw [e1] at this
      have e2 : ((t :: l) ++ [t]).getD (l.length + 1) 0 = t := by
        unfold List.getD
        rw [List.getElem?_append_right (by simp)]
        simp
      rw [e2] at this
      exact this
  · cases hq : ((t :: l).take i).contains ((t :: l).getD i 0)
    · rfl
    · exfalso
      have hm : (t :: l).getD i 0 ∈ (t :: l).take i := by simpa using hq
      obtain ⟨j, hj, he⟩ := List.getElem_of_mem hm
      simp only [List.length_take] at hj
      rw [List.getElem_take] at he
      have e3 : (t :: l).getD i 0 = (t :: l)[i] := by unfold List.getD; rw [List.getElem?_eq_getElem hi]; rfl
      rw [e3] at he
      rw [List.nodup_iff_pairwise_ne, List.pairwise_iff_getElem] at hnd
      exact hnd j i (by omega) hi (by omega) he
end Go.Proofs.Ytmolddlmjojceaa
