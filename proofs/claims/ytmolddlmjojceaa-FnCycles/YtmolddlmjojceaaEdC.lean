
/- WithoutTxn of the program. -/
import Derived.Test.YtmolddlmjojceaaEdB
import Derived.Test.YtmolddlmjojceaaHm
import Derived.Test.YtmolddlmjojceaaAppX
import Derived.Test.YtmolddlmjojceaaDrawA
import Derived.Lib.SmallJoins
namespace Go.Proofs.Ytmolddlmjojceaa
open Go.RowKit

set_option linter.unusedSimpArgs false in
set_option maxRecDepth 20000 in
set_option maxHeartbeats 4000000 in
theorem implWithout_any (a : Option Addr) (n cap : Nat) (t : Int) (es : List Ch.Hold) (w : World) (h : CellsAt w a (n * 2) (hcells es)) (hn : n ≤ 1048576) :
    Calls Try.prog 11 #[.slice a n cap, .int .i64 t] w fun e w' => ∃ a' m c', e = .returned (.agg #[.int .i64 (Ch.withoutR es t).1, .slice a' m c']) ∧ m ≤ 1048576 ∧ w'.ownsRow w.heap.size 33 2 (.slice a' m c') m (hcells (Ch.withoutR es t).2) ∧ Below w.heap.size w w' := by
  have IA := fun W hW => txnEdges_any a n cap t es W hW hn
  have kA : ∀ o, Below w.heap.size w (w.alloc o) := fun o => (Below.refl _ _).alloc (Nat.le_refl _) o
  have HL := h.hlen
  obtain ⟨i0, hi0, hz0, hz1, hz2⟩ := info_parts Try.info33
  obtain ⟨c, HC⟩ : ∃ c, Hid (Ch.edgesT es t = c) := ⟨_, rfl⟩
  rw [HC.out] at IA
  by_cases h0 : c = 0
  · subst h0
    rw [Ch.withoutR_ok HC.out]
    have hn4 : n ≤ 400 := by have := Ch.edgesT_many HC.out; have := HL.out; omega
    clear HC
    go_enter Try.func11, Try.ntmps11
    go_wp2_with fail
    refine (IA _ (h.below (kA _))).mono ?_
    rintro e w1 ⟨rfl, b1⟩
    have hR := heap_below b1 (heap_alloc_new w _)
    have b1 := below_box b1
    have lz := (Array.getElem?_eq_some_iff.1 hR).1
    obtain ⟨x0, x1, f0, f1⟩ := row2 hR
    clear IA
    go_wp2
    go_loopw [18] (fun i wr => ∃ (k m : Nat) (a' : Option Addr) (c' : Nat), k ≤ n ∧ m ≤ k ∧ i = .int .i64 k ∧ wr.heap[w.heap.size]? = some (.cells #[.int .i64 0, .slice none 0 0] 36 (0, 0)) ∧ wr.heap[w1.heap.size]? = some (.cells #[.int .i64 0, .slice a' m c'] 36 (0, 0)) ∧ wr.ownsRow (w1.heap.size + 1) 33 2 (.slice a' m c') m (hcells (Ch.withoutE (es.take k) t)) ∧ w1.heap.size < wr.heap.size ∧ Below w.heap.size w wr) (fun i _ => n - (intOf i).toNat)
    case atStart => exact ⟨0, 0, none, 0, Nat.zero_le _, Nat.le_refl _, rfl, (heap_old' lz).trans hR, heap_alloc_new w1 _, World.ownsRow_nil _ _ _ _, by simp, b1.alloc b1.size _⟩
    case round =>
      clear hR x0 x1 f0 f1
      obtain ⟨k, m, a', c', hk, hmk, rfl, hR, hX, own, hsz, hB⟩ := hrel
      obtain ⟨x0, x1, f0, f1⟩ := row2 hR
      obtain ⟨y0, y1, g0, g1⟩ := row2 hX
      have lr := (Array.getElem?_eq_some_iff.1 hR).1
      by_cases hlt : k < n
      · have hkl : k < es.length := by have := HL.out; omega
        have HY := hid (fun he => Ch.withoutE_yes (t := t) hkl he)
        have HN := hid (fun he => Ch.withoutE_no (t := t) hkl he)
        obtain ⟨b, off, rfl, q0, q1⟩ := (h.below hB).hold hlt
        have hbl := lt_of_cell q0

        generalize es.getD k Ch.Hold.zero = r at *
        obtain ⟨rt, rm⟩ := r
        simp only at q0 q1 HY HN
        generalize Ch.withoutE (es.take k) t = zs at *
        have hsum : m + 1 ≤ 4194304 := by omega
        have kE : Below wr.heap.size wr (wr.alloc (.cells #[.int .i64 rt, .int .i64 rm] 33)) := (Below.refl _ _).alloc (Nat.le_refl _) _
        by_cases h1 : rt = t
        · have e1 : (rt != t) = false := by simpa using h1
          replace HN := hid (HN.out (show Ch.keepE t ⟨rt, rm⟩ = false by unfold Ch.keepE; simp only [e1]; rfl))
          clear h1 HY
          go_wp2
          go_roundw
          case rel => exact ⟨k + 1, m, a', c', by omega, by omega, by go_num, heap_below kE hR, heap_below kE hX, by rw [HN.out]; exact owns_below own kE, Nat.lt_of_lt_of_le hsz kE.size, hB.trans (kE.mono hB.size)⟩
          case measure => simp [intOf]; omega
        have e1 : (rt != t) = true := by simpa using h1
        clear h1
        by_cases h2 : rm = t
        · have e2 : (rm != t) = false := by simpa using h2
          replace HN := hid (HN.out (show Ch.keepE t ⟨rt, rm⟩ = false by unfold Ch.keepE; simp only [e1, e2]; rfl))
          clear h2 HY
          go_wp2
          go_roundw
          case rel => exact ⟨k + 1, m, a', c', by omega, by omega, by go_num, heap_below kE hR, heap_below kE hX, by rw [HN.out]; exact owns_below own kE, Nat.lt_of_lt_of_le hsz kE.size, hB.trans (kE.mono hB.size)⟩
          case measure => simp [intOf]; omega
        have e2 : (rm != t) = true := by simpa using h2
        replace HY := hid (HY.out (show Ch.keepE t ⟨rt, rm⟩ = true by unfold Ch.keepE; simp only [e1, e2]; rfl))
        clear h2 HN
        have kQ : Below wr.heap.size wr ((wr.alloc (.cells #[.int .i64 rt, .int .i64 rm] 33)).alloc (.cells #[.int .i64 rt, .int .i64 rm] 33)) := ((Below.refl _ _).alloc (Nat.le_refl _) _).alloc (by simp) _
        have own3 := owns_below own kQ
        have hX3 := heap_below kQ hX
        have hR3 := heap_below kQ hR
        have hC3 := new_hold (wr.alloc (.cells #[.int .i64 rt, .int .i64 rm] 33)) rt rm 33
        rw [show (wr.alloc (.cells #[.int .i64 rt, .int .i64 rm] 33)).heap.size = wr.heap.size + 1 by simp] at hC3
        have hb3 : w1.heap.size + 1 ≤ ((wr.alloc (.cells #[.int .i64 rt, .int .i64 rm] 33)).alloc (.cells #[.int .i64 rt, .int .i64 rm] 33)).heap.size := by simp; omega
        go_wp2_with (at_builtin; go_must (refine wpList_appX Try.underlying24 Try.underlying24 hi0 hz0 hz1 hz2 rfl (by omega) (by omega) (.tmp 33) (.tmp 35) ?_ ?_ (w1.heap.size + 1) (.slice a' m c') m (hcells zs) _ 1 1 (hcells [⟨rt, rm⟩]) ?_ ?_ own3 hC3 (hcells_one' _) hsum hb3 ?_; exact rfl; exact rfl; exact rfl; exact rfl; intro a5 c5 w5 own5 gr5 at5; have hX5 := gr_heap gr5 hX3 (own_ne own3 (by omega)); have hR5 := gr_heap gr5 hR3 (own_ne own3 (by omega)); obtain ⟨v0, v1, e0, e1⟩ := row2 hX5; have lv := lt_of_cell v0))
        go_roundw
        case rel =>
          rw [← hcells_append, ← HY.out] at own5
          have b3 := (hB.alloc hB.size (.cells #[.int .i64 rt, .int .i64 rm] 33)).alloc (by simp; exact Nat.le_trans hB.size (by omega)) (.cells #[.int .i64 rt, .int .i64 rm] 33)
          have b5 := b3.grown gr5 b3.size (fun g hg => by have := (owns_lt own3 g hg).1; omega)
          refine ⟨k + 1, m + 1, a5, c5, by omega, by omega, by go_num, ?_, ?_, ?_, ?_, b5.setCell (p := ⟨w1.heap.size, 1, none⟩) (by show w.heap.size ≤ w1.heap.size; omega) _⟩
          · exact (Below.heap_setCell _ _ _ _ (by show w.heap.size ≠ w1.heap.size; omega)).trans hR5
          · have := Joins.block_setCell (i := 1) hX5 (.slice a5 (m + 1) c5)
            simpa using this
          · exact ownsRow_setCell_below own5 (by show w1.heap.size < w1.heap.size + 1; omega) _
          · have := gr5.size; simp at this ⊢; omega
        case measure => simp [intOf]; omega
      · obtain rfl : k = n := by omega
        have HWF : Hid (es.take k = es) := by have := HL.out; show _ = _; rw [this]; exact List.take_length
        rw [HWF.out] at own
        go_wp2
        refine bodyPost_ret (v := .agg #[.int .i64 0, .slice a' m c']) (by simp [results, Try.results11, go_sem, x0, x1]) rfl ⟨a', m, c', rfl, by omega, ?_, ?_⟩
        · refine owns_base (base := w1.heap.size + 1) (ownsRow_setCell_below (ownsRow_setCell_below own ?_ _) ?_ _) (by omega)
          · show w.heap.size < w1.heap.size + 1; omega
          · show w.heap.size < w1.heap.size + 1; omega
        · exact (hB.setCell (p := ⟨w.heap.size, 0, none⟩) (Nat.le_refl _) _).setCell (p := ⟨w.heap.size, 1, none⟩) (Nat.le_refl _) _
  · rw [Ch.withoutR_bad HC.out h0]
    clear HC
    go_enter Try.func11, Try.ntmps11
    go_wp2_with fail
    refine (IA _ (h.below (kA _))).mono ?_
    rintro e w1 ⟨rfl, b1⟩
    have hR := heap_below b1 (heap_alloc_new w _)
    have b1 := below_box b1
    have lz := (Array.getElem?_eq_some_iff.1 hR).1
    obtain ⟨x0, x1, f0, f1⟩ := row2 hR
    go_wp2
    exact bodyPost_ret (v := .agg #[.int .i64 c, .slice none 0 0]) (by simp [results, Try.results11, go_sem, x0, x1]) rfl ⟨none, 0, 0, rfl, by omega, World.ownsRow_nil _ _ _ _, (b1.setCell (p := ⟨w.heap.size, 0, none⟩) (Nat.le_refl _) _).setCell (p := ⟨w.heap.size, 1, none⟩) (Nat.le_refl _) _⟩
end Go.Proofs.Ytmolddlmjojceaa
