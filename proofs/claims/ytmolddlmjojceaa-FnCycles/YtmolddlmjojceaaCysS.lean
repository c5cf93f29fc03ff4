
/- CycleFrom and HasCycle of the model. -/
import Derived.Test.YtmolddlmjojceaaEdB
import Derived.Test.YtmolddlmjojceaaCycW
namespace Go.Proofs.Ytmolddlmjojceaa
open Go.RowKit

def Ch.cycR (es : List Ch.Hold) (t : Int) : Int × List Int := if Ch.edgesT es t != 0 then (Ch.edgesT es t, []) else if (Ch.cycM (Ch.prE es) t).length = 0 then (4, []) else (0, Ch.cycM (Ch.prE es) t)
def Ch.hasC (es : List Ch.Hold) (e : Ch.Hold) : Bool := decide (0 < (Ch.cycM (Ch.prE es) e.t).length)
def Ch.hasR (es : List Ch.Hold) : Bool := Ch.edgesFault es == 0 && es.any (Ch.hasC es)
theorem Ch.cycR_bad {es : List Ch.Hold} {t c : Int} (h : Ch.edgesT es t = c) (h0 : c ≠ 0) : Ch.cycR es t = (c, []) := by
  unfold Ch.cycR; rw [h, if_pos (by simpa using h0)]
theorem Ch.cycR_none {es : List Ch.Hold} {t : Int} (h : Ch.edgesT es t = 0) (h2 : (Ch.cycM (Ch.prE es) t).length = 0) : Ch.cycR es t = (4, []) := by
  unfold Ch.cycR; rw [h, if_neg (by decide), if_pos h2]
theorem Ch.cycR_ok {es : List Ch.Hold} {t : Int} (h : Ch.edgesT es t = 0) (h2 : ¬ (Ch.cycM (Ch.prE es) t).length = 0) : Ch.cycR es t = (0, Ch.cycM (Ch.prE es) t) := by
  unfold Ch.cycR; rw [h, if_neg (by decide), if_neg h2]
theorem Ch.edges_in {es : List Ch.Hold} (h : Ch.edgesFault es = 0) : es.length ≤ 400 ∧ ∀ k, k < es.length → 1 ≤ (es.getD k Ch.Hold.zero).t ∧ (es.getD k Ch.Hold.zero).t ≤ 999 ∧ 1 ≤ (es.getD k Ch.Hold.zero).m ∧ (es.getD k Ch.Hold.zero).m ≤ 999 := by
  unfold Ch.edgesFault at h
  by_cases h1 : 400 < es.length
  · rw [if_pos h1] at h; cases h
  rw [if_neg h1] at h
  refine ⟨by omega, fun k hk => ?_⟩
  cases h2 : es.any Ch.badE
  · have hb : Ch.badE (es.getD k Ch.Hold.zero) = false := by
      cases hx : Ch.badE (es.getD k Ch.Hold.zero)
      · rfl
      · rw [Ch.any_bad hk hx] at h2; cases h2
    unfold Ch.badE at hb
    simp only [Bool.or_eq_false_iff, Bool.not_eq_false'] at hb
    have a1 := (Ch.inB_iff _ _ _).1 hb.1.1
    have a2 := (Ch.inB_iff _ _ _).1 hb.1.2
    exact ⟨a1.1, a1.2, a2.1, a2.2⟩
  · rw [h2] at h; cases h

def CycD (es : List Ch.Hold) (t : Int) (w : World) (e : Ending) (w' : World) : Prop :=
  ∃ a' m c', e = .returned (.agg #[.int .i64 (Ch.cycR es t).1, .slice a' m c']) ∧ m ≤ 401 ∧ w'.ownsRow w.heap.size 2 1 (.slice a' m c') m (icells (Ch.cycR es t).2) ∧ Below w.heap.size w w'

set_option linter.unusedSimpArgs false in
set_option maxRecDepth 20000 in
set_option maxHeartbeats 4000000 in
theorem specCycle_any (a : Option Addr) (n cap : Nat) (t : Int) (es : List Ch.Hold) (w : World) (h : CellsAt w a (n * 2) (hcells es)) (hn : n ≤ 1048576) :
    Calls Try.prog 7 #[.slice a n cap, .int .i64 t] w fun e w' => CycD es t w e w' := by
  unfold CycD
  have IA := fun W hW => l7Fault_any a n cap es W hW hn
  have IT := fun W => l2Txn_any t W
  have HR : Hid (Ch.edgesT es t = if Ch.edgesFault es != 0 then Ch.edgesFault es else if Ch.inB t 1 999 then 0 else 3) := rfl
  have kA : ∀ o, Below w.heap.size w (w.alloc o) := fun o => (Below.refl _ _).alloc (Nat.le_refl _) o
  have HL := h.hlen
  have HE := hid (fun (h : Ch.edgesFault es = 0) => Ch.edges_in h)
  generalize Ch.edgesFault es = c at *
  by_cases h0 : c = 0
  · subst h0
    have HE2 := hid (HE.out rfl)
    clear HE
    cases ht : Ch.inB t 1 999
    all_goals rw [ht] at IT HR
    · rw [Ch.cycR_bad HR.out (by decide)]
      clear HR HE2
      go_enter Try.func7, Try.ntmps7
      go_wp2_with fail
      refine (IA _ (h.below (kA _))).mono ?_
      rintro e w1 ⟨rfl, b1⟩
      have hR := heap_below b1 (heap_alloc_new w _)
      have b1 := below_box b1
      have lz := (Array.getElem?_eq_some_iff.1 hR).1
      obtain ⟨x0, x1, f0, f1⟩ := row2 hR
      clear IA
      go_wp2_with fail
      refine (IT _).mono ?_
      rintro e w2 ⟨rfl, rfl⟩
      go_wp2
      exact bodyPost_ret (v := .agg #[.int .i64 3, .slice none 0 0]) (by simp [results, Try.results7, go_sem, x0, x1]) rfl ⟨none, 0, 0, rfl, by omega, World.ownsRow_nil _ _ _ _, (b1.setCell (p := ⟨w.heap.size, 0, none⟩) (Nat.le_refl _) _).setCell (p := ⟨w.heap.size, 1, none⟩) (Nat.le_refl _) _⟩
    have hn4 : n ≤ 400 := by have := HE2.out.1; have := HL.out; omega
    have ht9 := (Ch.inB_iff _ _ _).1 ht
    have IC := fun W hW => l7Cycle_any a n cap es t W hW hn4 (fun k hk => HE2.out.2 k (by have := HL.out; omega)) ht9
    have H4 := hid (fun hh => Ch.cycR_none (t := t) HR.out hh)
    have H0 := hid (fun hh => Ch.cycR_ok (t := t) HR.out hh)
    clear HR HE2 ht ht9 HL
    generalize Ch.cycR es t = RR at *
    generalize Ch.cycM (Ch.prE es) t = cy at *
    go_enter Try.func7, Try.ntmps7
    go_wp2_with fail
    refine (IA _ (h.below (kA _))).mono ?_
    rintro e w1 ⟨rfl, b1⟩
    have hR := heap_below b1 (heap_alloc_new w _)
    have b1 := below_box b1
    clear IA
    go_wp2_with fail
    refine (IT _).mono ?_
    rintro e w2 ⟨rfl, hw2⟩
    obtain rfl := hw2.symm
    clear IT
    go_wp2_with fail
    refine (IC _ (h.below b1)).mono ?_
    rintro e w2 ⟨a', m, c2, rfl, hm, hml, own, b2⟩
    have hR2 := heap_below b2 hR
    have b2' := b1.trans (b2.mono b1.size)
    have z1 := b1.size
    obtain ⟨x0, x1, f0, f1⟩ := row2 hR2
    have lx := lt_of_cell x0
    have hwx : w.heap.size < w1.heap.size := (Array.getElem?_eq_some_iff.1 hR).1
    clear hR hR2 IC
    by_cases hm0 : m = 0
    · subst hm0
      have HQ := hid (H4.out hml.symm)
      clear hml H4 H0
      go_wp2
      exact bodyPost_ret (v := .agg #[.int .i64 4, .slice none 0 0]) (by simp [results, Try.results7, go_sem, x0, x1]) rfl ⟨none, 0, 0, by rw [HQ.out], by omega, by rw [HQ.out]; exact World.ownsRow_nil _ _ _ _, (b2'.setCell (p := ⟨w.heap.size, 0, none⟩) (Nat.le_refl _) _).setCell (p := ⟨w.heap.size, 1, none⟩) (Nat.le_refl _) _⟩
    · have HQ := hid (H0.out (fun h => hm0 (hml.trans h)))
      have dm : ((m : Int) == 0) = false := by simp; omega
      clear hml H4 H0
      go_wp2
      refine bodyPost_ret (v := .agg #[.int .i64 0, .slice a' m c2]) (by simp [results, Try.results7, go_sem, x0, x1]) rfl ⟨a', m, c2, by rw [HQ.out], hm, ?_, ?_⟩
      · rw [HQ.out]
        refine owns_base (base := w1.heap.size) (ownsRow_setCell_below (ownsRow_setCell_below own ?_ _) ?_ _) (by omega)
        · show w.heap.size < w1.heap.size; omega
        · show w.heap.size < w1.heap.size; omega
      · exact (b2'.setCell (p := ⟨w.heap.size, 0, none⟩) (Nat.le_refl _) _).setCell (p := ⟨w.heap.size, 1, none⟩) (Nat.le_refl _) _
  · have hT : Hid (Ch.edgesT es t = c) := by show _ = _; rw [HR.out, if_pos (by simpa using h0)]
    rw [Ch.cycR_bad hT.out h0]
    clear HR HE hT
    go_enter Try.func7, Try.ntmps7
    go_wp2_with fail
    refine (IA _ (h.below (kA _))).mono ?_
    rintro e w1 ⟨rfl, b1⟩
    have hR := heap_below b1 (heap_alloc_new w _)
    have b1 := below_box b1
    obtain ⟨x0, x1, f0, f1⟩ := row2 hR
    have lx := lt_of_cell x0
    go_wp2
    exact bodyPost_ret (v := .agg #[.int .i64 c, .slice none 0 0]) (by simp [results, Try.results7, go_sem, x0, x1]) rfl ⟨none, 0, 0, rfl, by omega, World.ownsRow_nil _ _ _ _, (b1.setCell (p := ⟨w.heap.size, 0, none⟩) (Nat.le_refl _) _).setCell (p := ⟨w.heap.size, 1, none⟩) (Nat.le_refl _) _⟩

theorem Ch.anyC_snoc {α : Type} (es : List α) (z : α) (p : α → Bool) (k : Nat) (hk : k < es.length) : (es.take (k + 1)).any p = ((es.take k).any p || p (es.getD k z)) := by
  rw [Ch.take_snoc es z k hk, List.any_append]; simp
set_option linter.unusedSimpArgs false in
set_option maxRecDepth 20000 in
set_option maxHeartbeats 4000000 in
theorem l7Has_any (a : Option Addr) (n cap : Nat) (es : List Ch.Hold) (w : World) (h : CellsAt w a (n * 2) (hcells es)) (hf : Ch.edgesFault es = 0) :
    Calls Try.prog 22 #[.slice a n cap] w fun e w' => e = .returned (.bool (es.any (Ch.hasC es))) ∧ Below w.heap.size w w' := by
  have HL := h.hlen
  have HE := hid (Ch.edges_in hf)
  have hn : n ≤ 400 := by have := HE.out.1; have := HL.out; omega
  go_enter Try.func22, Try.ntmps22
  go_wp2
  go_loopw [3] (fun i wr => ∃ k : Nat, k ≤ n ∧ i = .int .i64 k ∧ Hid ((es.take k).any (Ch.hasC es) = false) ∧ Below w.heap.size w wr) (fun i _ => n - (intOf i).toNat)
  case atStart => exact ⟨0, Nat.zero_le _, rfl, rfl, Below.refl _ _⟩
  case round =>
    obtain ⟨k, hk, rfl, HA, hB⟩ := hrel
    by_cases hlt : k < n
    · have hkl : k < es.length := by have := HL.out; omega
      have HT := hid (Ch.anyC_snoc es Ch.Hold.zero (Ch.hasC es) k hkl)
      rw [HA.out, Bool.false_or] at HT
      have HO : Hid (∀ b, Ch.hasC es (es.getD k Ch.Hold.zero) = b → b = true → es.any (Ch.hasC es) = true) := by
        intro b hb h1
        rw [h1] at hb
        exact List.any_eq_true.2 ⟨_, by simp [List.getD, hkl], hb⟩
      have hx := HE.out.2 k hkl
      have IC := fun W hW => l7Cycle_any a n cap es (es.getD k Ch.Hold.zero).t W hW hn (fun j hj => HE.out.2 j (by have := HL.out; omega)) ⟨hx.1, hx.2.1⟩
      have IC := IC wr (h.below hB)
      have HC : Hid (Ch.hasC es (es.getD k Ch.Hold.zero) = decide (0 < (Ch.cycM (Ch.prE es) (es.getD k Ch.Hold.zero).t).length)) := rfl
      rw [HC.out] at HT HO
      obtain ⟨b, off, rfl, q0, q1⟩ := (h.below hB).hold hlt
      have hbl := lt_of_cell q0
      clear hx HC HA
      generalize es.getD k Ch.Hold.zero = ed at *
      obtain ⟨rt, rm⟩ := ed
      simp only at q0 q1 HT HO IC
      generalize Ch.cycM (Ch.prE es) rt = cy at *
      go_wp2_with fail
      refine IC.mono ?_
      rintro e w2 ⟨a', m, c2, rfl, hm, hml, own, b2⟩
      have b2' := hB.trans (b2.mono hB.size)
      rw [← hml] at HT HO
      clear hml IC b2 own q0 q1
      by_cases hm0 : m = 0
      · subst hm0
        go_wp2
        go_roundw
        case rel => exact ⟨k + 1, by omega, by go_num, HT.out, b2'⟩
        case measure => simp [intOf]; omega
      · have hp : 0 < m := by omega
        have HY := hid (HO.out _ rfl (by simpa using hp))
        clear HT HO
        go_wp2
        go_ret
        exact ⟨by rw [HY.out]; rfl, b2'⟩
    · obtain rfl : k = n := by omega
      have HY : Hid (es.any (Ch.hasC es) = false) := by have := HA.out; rw [List.take_of_length_le (by have := HL.out; omega)] at this; exact this
      go_wp2
      go_ret
      exact ⟨by rw [HY.out]; rfl, hB⟩

set_option linter.unusedSimpArgs false in
set_option maxRecDepth 20000 in
set_option maxHeartbeats 4000000 in
theorem specHas_any (a : Option Addr) (n cap : Nat) (es : List Ch.Hold) (w : World) (h : CellsAt w a (n * 2) (hcells es)) (hn : n ≤ 1048576) :
    Calls Try.prog 9 #[.slice a n cap] w fun e w' => e = .returned (.bool (Ch.hasR es)) ∧ Below w.heap.size w w' := by
  have IA := l7Fault_any a n cap es w h hn
  have IB := fun (hf : Ch.edgesFault es = 0) W hW => l7Has_any a n cap es W hW hf
  have HR : Hid (Ch.hasR es = (Ch.edgesFault es == 0 && es.any (Ch.hasC es))) := rfl
  generalize Ch.edgesFault es = c at *
  generalize es.any (Ch.hasC es) = b at *
  by_cases h0 : c = 0
  · subst h0
    have IB2 := fun W hW => IB rfl W hW
    clear IB
    have HQ : Hid (Ch.hasR es = b) := by show _ = _; rw [HR.out]; simp
    clear HR
    go_enter Try.func9, Try.ntmps9
    go_wp2_with fail
    refine IA.mono ?_
    rintro e w1 ⟨rfl, b1⟩
    clear IA
    go_wp2_with fail
    refine (IB2 _ (h.below b1)).mono ?_
    rintro e w2 ⟨rfl, b2⟩
    go_wp2
    go_ret
    exact ⟨by rw [HQ.out]; rfl, b1.trans (b2.mono b1.size)⟩
  · have d0 : (c == 0) = false := by simpa using h0
    have HQ : Hid (Ch.hasR es = false) := by show _ = _; rw [HR.out, d0]; rfl
    clear HR IB
    go_enter Try.func9, Try.ntmps9
    go_wp2_with fail
    refine IA.mono ?_
    rintro e w1 ⟨rfl, b1⟩
    go_wp2
    go_ret
    exact ⟨by rw [HQ.out]; rfl, b1⟩
end Go.Proofs.Ytmolddlmjojceaa
