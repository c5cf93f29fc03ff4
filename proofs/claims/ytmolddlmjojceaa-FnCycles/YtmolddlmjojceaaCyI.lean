
/- CycleFrom of the program. -/
import Derived.Test.YtmolddlmjojceaaCirW
import Derived.Test.YtmolddlmjojceaaCysS
namespace Go.Proofs.Ytmolddlmjojceaa
open Go.RowKit Go.Maps

theorem Ch.insE_lenC (l : List Ch.Hold) (e : Ch.Hold) : (Ch.insE l e).length ≤ l.length + 1 := by
  induction l with
  | nil => simp [Ch.insE]
  | cons x l ih =>
    unfold Ch.insE
    split
    · simp only [List.length_cons]; omega
    · split
      · simp
      · simp
theorem Ch.sortE_lenC (l : List Ch.Hold) : (Ch.sortE l).length ≤ l.length := by
  unfold Ch.sortE
  suffices H : ∀ (l acc : List Ch.Hold), (l.foldl Ch.insE acc).length ≤ l.length + acc.length by simpa using H l []
  intro l
  induction l with
  | nil => intro acc; simp
  | cons x l ih =>
    intro acc
    have h1 := ih (Ch.insE acc x)
    have h2 := Ch.insE_lenC acc x
    simp only [List.foldl_cons, List.length_cons]
    omega
/-- What edges without a fault are. -/
theorem Ch.edges_are {es : List Ch.Hold} (h : Ch.edgesFault es = 0) : es.length ≤ 400 ∧ RngE es ∧ ∀ e ∈ es, e.t ≠ e.m := by
  unfold Ch.edgesFault at h
  split at h
  · omega
  · split at h
    · omega
    · rename_i h1 h2
      have hb : ∀ e ∈ es, Ch.badE e = false := fun e he => by
        cases hq : Ch.badE e
        · rfl
        · exact absurd (List.any_eq_true.2 ⟨e, he, hq⟩) h2
      refine ⟨by omega, fun e he => ?_, fun e he => ?_⟩
      · have := hb e he
        unfold Ch.badE at this
        simp only [Bool.or_eq_false_iff, Bool.not_eq_false'] at this
        exact ⟨(Ch.inB_iff _ _ _).1 this.1.1, (Ch.inB_iff _ _ _).1 this.1.2⟩
      · have := hb e he
        unfold Ch.badE at this
        simp only [Bool.or_eq_false_iff] at this
        simpa using this.2
def CycE (es : List Ch.Hold) (t : Int) (w : World) (e : Ending) (w' : World) : Prop :=
  ∃ a' m c', e = .returned (.agg #[.int .i64 (Ch.cycR es t).1, .slice a' m c']) ∧ m ≤ 1048576 ∧ w'.ownsRow w.heap.size 2 1 (.slice a' m c') m (icells (Ch.cycR es t).2) ∧ Below w.heap.size w w'

set_option linter.unusedSimpArgs false in
set_option maxRecDepth 20000 in
set_option maxHeartbeats 4000000 in
theorem implCycle_any (a : Option Addr) (n cap : Nat) (t : Int) (es : List Ch.Hold) (w : World) (h : CellsAt w a (n * 2) (hcells es)) (hn : n ≤ 1048576) :
    Calls Try.prog 6 #[.slice a n cap, .int .i64 t] w fun e w' => CycE es t w e w' := by
  unfold CycE
  have IT := fun W hW => txnEdges_any a n cap t es W hW hn
  have kA : ∀ o, Below w.heap.size w (w.alloc o) := fun o => (Below.refl _ _).alloc (Nat.le_refl _) o
  have HL := h.hlen
  obtain ⟨c, hc⟩ : ∃ c, Hid (Ch.edgesT es t = c) := ⟨_, rfl⟩
  rw [hc.out] at IT
  by_cases h0 : c = 0
  · subst h0
    have hf : Ch.edgesFault es = 0 ∧ Ch.inB t 1 999 = true := by
      have := hc.out
      unfold Ch.edgesT at this
      split at this
      · rename_i h1; rw [this] at h1; simp at h1
      · rename_i h1
        split at this
        · rename_i h2; exact ⟨by simpa using h1, h2⟩
        · omega
    obtain ⟨hl4, hrg, hsf⟩ := Ch.edges_are hf.1
    have ht9 := (Ch.inB_iff _ _ _).1 hf.2
    have hn4 : n ≤ 400 := by have := HL.out; omega
    have SO := fun W hW => setOf_any a n cap es W hW hn4 hrg
    have ST := fun W b q D own mp hq => sorted_any b q D es W own mp hrg hq
    have CF := fun (W : World) (B : Nat) (a2 : Option Addr) (n2 cap2 : Nat) (own : W.ownsRow B 33 2 (.slice a2 n2 cap2) n2 (hcells (Ch.sortE es))) (hc2 : n2 ≤ cap2) => circleFrom_any a2 n2 cap2 (Ch.sortE es) es (fun e => Ch.sortE_mem) t W (owns_cells own) (by have h1 := (owns_cells own).hlen.out; have h2 := Ch.sortE_lenC es; omega) hc2 (Ch.sortE_sort es) (fun e he => hrg e (Ch.sortE_mem.1 he)) (fun e he => hsf e (Ch.sortE_mem.1 he)) ht9
    have H4 := hid (fun hh => Ch.cycR_none (t := t) hc.out hh)
    have H0 := hid (fun hh => Ch.cycR_ok (t := t) hc.out hh)
    clear hf hl4 hrg hsf ht9
    generalize Ch.cycR es t = RR at *
    generalize Ch.cycM (Ch.prE es) t = cy at *
    go_enter Try.func6, Try.ntmps6
    go_wp2_with fail
    refine (IT _ (h.below (kA _))).mono ?_
    rintro e w1 ⟨rfl, b1⟩
    have hR := heap_below b1 (heap_alloc_new w _)
    have b1 := below_box b1
    clear IT
    go_wp2_with fail
    refine (SO _ (h.below b1)).mono ?_
    rintro e w2 ⟨D, rfl, own2, mp2, hlt2, b2⟩
    have hq2 : Maps.size D ≤ 1048576 := by have := own2.size_le; omega
    clear SO
    go_wp2_with fail
    refine (ST _ _ _ _ own2 mp2 hq2).mono ?_
    rintro e w3 ⟨a3, n3, c3, rfl, hn3, own3, b3⟩
    have hcp : n3 ≤ c3 := by
      rcases own3.2 with ⟨hv, h0⟩ | ⟨g, cp, cur, hv, _, _, h1, _⟩
      · omega
      · cases hv; exact h1
    have b13 := b2.trans (b3.mono b2.size)
    have hR := heap_below b13 hR
    have bE := b1.trans (b13.mono b1.size)
    clear ST own2 mp2 b2 b3
    go_wp2_with fail
    refine (CF _ _ _ _ _ own3 hcp).mono ?_
    rintro e w4 ⟨a', m, c2, rfl, hm, own, b4⟩
    have hR2 := heap_below b4 hR
    have b2' := bE.trans (b4.mono bE.size)
    have hml : m = cy.length := by have := own.1; rw [icells_len] at this; omega
    obtain ⟨x0, x1, f0, f1⟩ := row2 hR2
    have lx := lt_of_cell x0
    have hwx : w.heap.size < w3.heap.size := (Array.getElem?_eq_some_iff.1 hR).1
    clear hR hR2 CF
    by_cases hm0 : m = 0
    · subst hm0
      have HQ := hid (H4.out hml.symm)
      clear hml H4 H0
      go_wp2
      exact bodyPost_ret (v := .agg #[.int .i64 4, .slice none 0 0]) (by simp [results, Try.results6, go_sem, x0, x1]) rfl ⟨none, 0, 0, by rw [HQ.out], by omega, by rw [HQ.out]; exact World.ownsRow_nil _ _ _ _, (b2'.setCell (p := ⟨w.heap.size, 0, none⟩) (Nat.le_refl _) _).setCell (p := ⟨w.heap.size, 1, none⟩) (Nat.le_refl _) _⟩
    · have HQ := hid (H0.out (fun h => hm0 (hml.trans h)))
      have dm : ((m : Int) == 0) = false := by simp; omega
      clear hml H4 H0
      go_wp2
      refine bodyPost_ret (v := .agg #[.int .i64 0, .slice a' m c2]) (by simp [results, Try.results6, go_sem, x0, x1]) rfl ⟨a', m, c2, by rw [HQ.out], hm, ?_, ?_⟩
      · rw [HQ.out]
        refine owns_base (base := w3.heap.size) (ownsRow_setCell_below (ownsRow_setCell_below own ?_ _) ?_ _) (by omega)
        · show w.heap.size < w3.heap.size; omega
        · show w.heap.size < w3.heap.size; omega
      · exact (b2'.setCell (p := ⟨w.heap.size, 0, none⟩) (Nat.le_refl _) _).setCell (p := ⟨w.heap.size, 1, none⟩) (Nat.le_refl _) _
  · rw [Ch.cycR_bad hc.out h0]
    have hcb : (c != 0) = true := by simpa using h0
    go_enter Try.func6, Try.ntmps6
    go_wp2_with fail
    refine (IT _ (h.below (kA _))).mono ?_
    rintro e w1 ⟨rfl, b1⟩
    have hR := heap_below b1 (heap_alloc_new w _)
    have b1 := below_box b1
    obtain ⟨x0, x1, f0, f1⟩ := row2 hR
    have lx := lt_of_cell x0
    go_wp2
    exact bodyPost_ret (v := .agg #[.int .i64 c, .slice none 0 0]) (by simp [results, Try.results6, go_sem, x0, x1]) rfl ⟨none, 0, 0, rfl, by omega, World.ownsRow_nil _ _ _ _, (b1.setCell (p := ⟨w.heap.size, 0, none⟩) (Nat.le_refl _) _).setCell (p := ⟨w.heap.size, 1, none⟩) (Nat.le_refl _) _⟩
end Go.Proofs.Ytmolddlmjojceaa
