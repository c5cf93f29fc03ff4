
/- LookIndex of the program and of the model. -/
import Derived.Test.YthfanfnbjldddaaIxF
import Derived.Test.YthfanfnbjldddaaIxG
import Derived.Test.YthfanfnbjldddaaLkN
import Derived.Test.YthfanfnbjldddaaAppX
namespace Go.Proofs.Ythfanfnbjldddaa
open Go.RowKit

theorem new_int (w : World) (r : Int) (t : TypeId) : CellsAt (w.alloc (.cells #[.int .i64 r] t)) (some ⟨w.heap.size, 0, none⟩) (1 * 1) (icells [r]) := by
  refine ⟨rfl, fun _ => ⟨_, _, rfl, fun i hi => ?_⟩⟩
  rw [Nat.zero_add]
  have := cell_of_row (w.alloc (.cells #[.int .i64 r] t)) _ i _ _ _ (heap_alloc_new w _)
  rw [this]
  simp [icells]
theorem own_empty (w : World) (B : Nat) (e : TypeId) (size : Nat) (hB : B ≤ w.heap.size) : (w.alloc (.cells #[] e)).ownsRow B e size (.slice (some ⟨w.heap.size, 0, none⟩) 0 0) 0 [] :=
  World.ownsRow_lit w #[] 0 hB (by unfold maxLen; omega) (by simp)

set_option linter.unusedSimpArgs false in
set_option maxRecDepth 20000 in
set_option maxHeartbeats 2000000 in
theorem implLook_any (a : Option Addr) (n cap : Nat) (v : Int) (ps : List Ch.Hold) (w : World) (h : CellsAt w a (n * 2) (hcells ps)) (hn : n ≤ 1048576) :
    Calls Try.prog 28 #[.slice a n cap, .int .i64 v] w fun e w' => ∃ a' m c', e = .returned (.agg #[.int .i64 (Ch.lookR ps v).1, .slice a' m c']) ∧ m ≤ 1048576 ∧ w'.ownsRow w.heap.size 2 1 (.slice a' m c') m (icells (Ch.lookR ps v).2) ∧ Below w.heap.size w w' := by
  have IA := fun W hW => implIx_any a n cap ps W hW hn
  have kA : ∀ o, Below w.heap.size w (w.alloc o) := fun o => (Below.refl _ _).alloc (Nat.le_refl _) o
  have HL := h.hlen
  obtain ⟨i0, hi0, hz0, hz1, hz2⟩ := info_parts Try.info2
  obtain ⟨c, HC⟩ : ∃ c, Hid (Ch.ixFault ps = c) := ⟨_, rfl⟩
  rw [HC.out] at IA
  have IV := fun W => isValue_any v W
  by_cases h0 : c = 0
  rotate_left
  · have hc : (c != 0) = true := by simpa using h0
    rw [Ch.lookR_code HC.out hc]
    clear HC h0
    go_enter Try.func28, Try.ntmps28
    go_wp2_with fail
    refine (IA _ (h.below (kA _))).mono ?_
    rintro e w1 ⟨rfl, b1⟩
    have hR := block_below b1 (heap_alloc_new w _)
    have b1 := below_box b1
    have lz := (Array.getElem?_eq_some_iff.1 hR).1
    obtain ⟨x0, x1, f0, f1⟩ := row2 hR
    go_wp2
    exact bodyPost_ret (v := .agg #[.int .i64 c, .slice none 0 0]) (by simp [results, Try.results28, go_sem, x0, x1]) rfl ⟨none, 0, 0, rfl, by omega, World.ownsRow_nil _ _ _ _, (b1.setCell (p := ⟨w.heap.size, 0, none⟩) (Nat.le_refl _) _).setCell (p := ⟨w.heap.size, 1, none⟩) (Nat.le_refl _) _⟩
  subst h0
  cases hv : Ch.inB v 0 9999
  · rw [hv] at IV
    rw [Ch.lookR_range HC.out hv]
    clear HC
    go_enter Try.func28, Try.ntmps28
    go_wp2_with fail
    refine (IA _ (h.below (kA _))).mono ?_
    rintro e w1 ⟨rfl, b1⟩
    have hR := block_below b1 (heap_alloc_new w _)
    have b1 := below_box b1
    have lz := (Array.getElem?_eq_some_iff.1 hR).1
    obtain ⟨x0, x1, f0, f1⟩ := row2 hR
    go_wp2_with fail
    refine (IV _).mono ?_
    rintro e w' ⟨rfl, rfl⟩
    go_wp2
    exact bodyPost_ret (v := .agg #[.int .i64 3, .slice none 0 0]) (by simp [results, Try.results28, go_sem, x0, x1]) rfl ⟨none, 0, 0, rfl, by omega, World.ownsRow_nil _ _ _ _, (b1.setCell (p := ⟨w.heap.size, 0, none⟩) (Nat.le_refl _) _).setCell (p := ⟨w.heap.size, 1, none⟩) (Nat.le_refl _) _⟩
  · rw [hv] at IV
    rw [Ch.lookR_ok HC.out hv]
    clear HC hv
    go_enter Try.func28, Try.ntmps28
    go_wp2_with fail
    refine (IA _ (h.below (kA _))).mono ?_
    rintro e w1 ⟨rfl, b1⟩
    have hR := block_below b1 (heap_alloc_new w _)
    have b1 := below_box b1
    have lz := (Array.getElem?_eq_some_iff.1 hR).1
    obtain ⟨x0, x1, f0, f1⟩ := row2 hR
    go_wp2_with fail
    refine (IV _).mono ?_
    rintro e w' ⟨rfl, hw'⟩
    obtain rfl := hw'.symm
    clear IV
    go_wp2
    go_loopw [21] (fun i wr => ∃ (k m : Nat) (a' : Option Addr) (c' : Nat), k ≤ n ∧ m ≤ k ∧ i = .int .i64 k ∧ wr.heap[w.heap.size]? = some (.cells #[.int .i64 0, .slice none 0 0] 57 (0, 0)) ∧ wr.heap[w1.heap.size]? = some (.cells #[.int .i64 0, .slice a' m c'] 57 (0, 0)) ∧ wr.ownsRow (w1.heap.size + 1) 2 1 (.slice a' m c') m (icells (Ch.lookL (ps.take k) v)) ∧ w1.heap.size + 1 ≤ wr.heap.size ∧ Below w.heap.size w wr) (fun i _ => n - (intOf i).toNat)
    case atStart => exact ⟨0, 0, none, 0, Nat.zero_le _, Nat.le_refl _, rfl, (heap_old' lz).trans hR, heap_alloc_new w1 _, World.ownsRow_nil _ _ _ _, by simp, b1.alloc b1.size _⟩
    case round =>
      clear hR x0 x1 f0 f1 IA
      obtain ⟨k, m, a', c', hk, hmk, rfl, hR, hX, own, hsz, hB⟩ := hrel
      obtain ⟨x0, x1, f0, f1⟩ := row2 hR
      obtain ⟨y0, y1, g0, g1⟩ := row2 hX
      have lr := (Array.getElem?_eq_some_iff.1 hR).1
      by_cases hlt : k < n
      · have hkl : k < ps.length := by have := HL.out; omega
        have HY := hid (fun he => Ch.lookL_yes (v := v) hkl he)
        have HN := hid (fun he => Ch.lookL_no (v := v) hkl he)
        obtain ⟨b, off, rfl, q0, q1⟩ := (h.below hB).hold hlt
        have hbl := lt_of_cell q0
        generalize ps.getD k Ch.Hold.zero = r at *
        obtain ⟨rt, rm⟩ := r
        simp only at q0 q1 HY HN
        generalize Ch.lookL (ps.take k) v = zs at *
        have hsum : m + 1 ≤ 4194304 := by omega
        have kW : Below wr.heap.size wr (wr.alloc (.cells #[.int .i64 rt, .int .i64 rm] 60)) := (Below.refl _ _).alloc (Nat.le_refl _) _
        have hR2 := block_below kW hR
        have hX2 := block_below kW hX
        have own2 := owns_below own kW
        have b2' := hB.trans (kW.mono hB.size)
        have z2 := kW.size
        by_cases hh : rt = v
        rotate_left
        · have e1 : (rt == v) = false := by simpa using hh
          go_wp2
          go_roundw
          case rel => exact ⟨k + 1, m, a', c', by omega, by omega, by go_num, hR2, hX2, by rw [HN.out e1]; exact own2, by omega, b2'⟩
          case measure => simp [intOf]; omega
        · have e1 : (rt == v) = true := by simpa using hh
          replace HY := hid (HY.out e1)
          clear HN hh
          obtain ⟨s0, s1, _, _⟩ := row2 (heap_alloc_new wr (.cells #[.int .i64 rt, .int .i64 rm] 60))
          have t1 := keep_cell kW y1
          have ly := lt_of_cell y0
          have kQ : Below (wr.alloc (.cells #[.int .i64 rt, .int .i64 rm] 60)).heap.size (wr.alloc (.cells #[.int .i64 rt, .int .i64 rm] 60)) ((wr.alloc (.cells #[.int .i64 rt, .int .i64 rm] 60)).alloc (.cells #[.int .i64 rm] 2)) := (Below.refl _ _).alloc (Nat.le_refl _) _
          have own3 := owns_below own2 kQ
          have hX3 := block_below kQ hX2
          have hR3 := block_below kQ hR2
          have hC3 := new_int (wr.alloc (.cells #[.int .i64 rt, .int .i64 rm] 60)) rm 2
          rw [show (wr.alloc (.cells #[.int .i64 rt, .int .i64 rm] 60)).heap.size = wr.heap.size + 1 by simp] at hC3
          have hb3 : w1.heap.size + 1 ≤ ((wr.alloc (.cells #[.int .i64 rt, .int .i64 rm] 60)).alloc (.cells #[.int .i64 rm] 2)).heap.size := by simp; omega
          have b3 := b2'.trans (kQ.mono b2'.size)
          go_wp2_with (at_builtin; go_must (refine wpList_appX Try.underlying55 Try.underlying55 hi0 hz0 hz1 hz2 rfl (by omega) (by omega) (.tmp 30) (.tmp 33) ?_ ?_ (w1.heap.size + 1) (.slice a' m c') m (icells zs) _ 1 1 (icells [rm]) ?_ ?_ own3 hC3 (icells_one' [rm]) hsum hb3 ?_; exact rfl; exact rfl; exact rfl; exact rfl; intro a5 c5 w5 own5 gr5 at5; have hX5 := block_grown gr5 hX3 (own_apart own3 (by omega)); have hR5 := block_grown gr5 hR3 (own_apart own3 (by omega)); obtain ⟨v0, v1, e0, e1⟩ := row2 hX5; have lv := lt_of_cell v0; go_frame))
          go_roundw
          case rel =>
            rw [← icells_append, ← HY.out] at own5
            have b5 := b3.grown gr5 b3.size (fun g hg => by have := (owns_lt own3 g hg).1; omega)
            refine ⟨k + 1, m + 1, a5, c5, by omega, by omega, by go_num, ?_, ?_, ?_, ?_, b5.setCell (p := ⟨w1.heap.size, 1, none⟩) (by show w.heap.size ≤ w1.heap.size; omega) _⟩
            · exact (Below.heap_setCell _ _ _ _ (by show w.heap.size ≠ w1.heap.size; omega)).trans hR5
            · have := Joins.block_setCell (i := 1) hX5 (.slice a5 (m + 1) c5)
              simpa using this
            · exact ownsRow_setCell_below own5 (by show w1.heap.size < w1.heap.size + 1; omega) _
            · have := gr5.size; simp at this ⊢; omega
          case measure => simp [intOf]; omega
      · obtain rfl : k = n := by omega
        have HWF : Hid (ps.take k = ps) := by have := HL.out; show _ = _; rw [this]; exact List.take_length
        rw [HWF.out] at own
        go_wp2
        refine bodyPost_ret (v := .agg #[.int .i64 0, .slice a' m c']) (by simp [results, Try.results28, go_sem, x0, x1]) rfl ⟨a', m, c', rfl, by omega, ?_, ?_⟩
        · refine owns_base (base := w1.heap.size + 1) (ownsRow_setCell_below (ownsRow_setCell_below own ?_ _) ?_ _) (by omega)
          · show w.heap.size < w1.heap.size + 1; omega
          · show w.heap.size < w1.heap.size + 1; omega
        · exact (hB.setCell (p := ⟨w.heap.size, 0, none⟩) (Nat.le_refl _) _).setCell (p := ⟨w.heap.size, 1, none⟩) (Nat.le_refl _) _

set_option linter.unusedSimpArgs false in
set_option maxRecDepth 20000 in
set_option maxHeartbeats 2000000 in
theorem l9Look_any (a : Option Addr) (n cap : Nat) (v : Int) (ps : List Ch.Hold) (w : World) (h : CellsAt w a (n * 2) (hcells ps)) (hn : n ≤ 1048576) :
    Calls Try.prog 82 #[.slice a n cap, .int .i64 v] w fun e w' => ∃ a' m c', e = .returned (.slice a' m c') ∧ m ≤ 1048576 ∧ w'.ownsRow w.heap.size 2 1 (.slice a' m c') m (icells (Ch.lookL ps v)) ∧ Below w.heap.size w w' := by
  have HL := h.hlen
  obtain ⟨i0, hi0, hz0, hz1, hz2⟩ := info_parts Try.info2
  have oE := own_empty w w.heap.size 2 1 (Nat.le_refl _)
  have kE : Below w.heap.size w (w.alloc (.cells #[] 2)) := (Below.refl _ _).alloc (Nat.le_refl _) _
  go_enter Try.func82, Try.ntmps82
  go_wp2
  go_loopw [5, 6] (fun q i wr => ∃ (k m : Nat) (a' : Option Addr) (c' : Nat), k ≤ n ∧ m ≤ k ∧ i = .int .i64 k ∧ q = .slice a' m c' ∧ wr.ownsRow w.heap.size 2 1 (.slice a' m c') m (icells (Ch.lookL (ps.take k) v)) ∧ Below w.heap.size w wr) (fun _ i _ => n - (intOf i).toNat)
  case atStart => exact ⟨0, 0, _, _, Nat.zero_le _, Nat.le_refl _, rfl, rfl, oE, kE⟩
  case round =>
    clear oE kE
    obtain ⟨k, m, a', c', hk, hmk, rfl, rfl, own, hB⟩ := hrel
    by_cases hlt : k < n
    · have hkl : k < ps.length := by have := HL.out; omega
      have HY := hid (fun he => Ch.lookL_yes (v := v) hkl he)
      have HN := hid (fun he => Ch.lookL_no (v := v) hkl he)
      obtain ⟨b, off, rfl, q0, q1⟩ := (h.below hB).hold hlt
      have hbl := lt_of_cell q0
      generalize ps.getD k Ch.Hold.zero = r at *
      obtain ⟨rt, rm⟩ := r
      simp only at q0 q1 HY HN
      generalize Ch.lookL (ps.take k) v = zs at *
      have hsum : m + 1 ≤ 4194304 := by omega
      by_cases hh : rt = v
      rotate_left
      · have e1 : (rt == v) = false := by simpa using hh
        go_wp2
        go_roundw
        case rel => exact ⟨k + 1, m, a', c', by omega, by omega, by go_num, rfl, by rw [HN.out e1]; exact own, hB⟩
        case measure => simp [intOf]; omega
      · have e1 : (rt == v) = true := by simpa using hh
        replace HY := hid (HY.out e1)
        clear HN hh
        have kQ : Below wr.heap.size wr (wr.alloc (.cells #[.int .i64 rm] 2)) := (Below.refl _ _).alloc (Nat.le_refl _) _
        have own3 := owns_below own kQ
        have hC3 := new_int wr rm 2
        have hb3 : w.heap.size ≤ (wr.alloc (.cells #[.int .i64 rm] 2)).heap.size := by have := hB.size; simp; omega
        have b3 := hB.trans (kQ.mono hB.size)
        go_wp2_with (at_builtin; go_must (refine wpList_appX Try.underlying55 Try.underlying55 hi0 hz0 hz1 hz2 rfl (by omega) (by omega) (.tmp 21) (.tmp 27) ?_ ?_ w.heap.size (.slice a' m c') m (icells zs) _ 1 1 (icells [rm]) ?_ ?_ own3 hC3 (icells_one' [rm]) hsum hb3 ?_; exact rfl; exact rfl; exact rfl; exact rfl; intro a5 c5 w5 own5 gr5 at5; go_frame))
        go_roundw
        case rel =>
          rw [← icells_append, ← HY.out] at own5
          exact ⟨k + 1, m + 1, a5, c5, by omega, by omega, by go_num, rfl, own5, b3.grown gr5 b3.size (fun g hg => (owns_lt own3 g hg).1)⟩
        case measure => simp [intOf]; omega
    · obtain rfl : k = n := by omega
      have HWF : Hid (ps.take k = ps) := by have := HL.out; show _ = _; rw [this]; exact List.take_length
      rw [HWF.out] at own
      go_wp2
      go_ret
      exact ⟨a', m, c', rfl, by omega, own, hB⟩

set_option linter.unusedSimpArgs false in
set_option maxRecDepth 20000 in
set_option maxHeartbeats 2000000 in
theorem specLook_any (a : Option Addr) (n cap : Nat) (v : Int) (ps : List Ch.Hold) (w : World) (h : CellsAt w a (n * 2) (hcells ps)) (hn : n ≤ 1048576) :
    Calls Try.prog 29 #[.slice a n cap, .int .i64 v] w fun e w' => ∃ a' m c', e = .returned (.agg #[.int .i64 (Ch.lookR ps v).1, .slice a' m c']) ∧ m ≤ 1048576 ∧ w'.ownsRow w.heap.size 2 1 (.slice a' m c') m (icells (Ch.lookR ps v).2) ∧ Below w.heap.size w w' := by
  have IA := fun W hW => specIx_any a n cap ps W hW hn
  have kA : ∀ o, Below w.heap.size w (w.alloc o) := fun o => (Below.refl _ _).alloc (Nat.le_refl _) o
  obtain ⟨c, HC⟩ : ∃ c, Hid (Ch.ixFault ps = c) := ⟨_, rfl⟩
  rw [HC.out] at IA
  have IV := fun W => value_any v W
  by_cases h0 : c = 0
  rotate_left
  · have hc : (c != 0) = true := by simpa using h0
    rw [Ch.lookR_code HC.out hc]
    clear HC h0
    go_enter Try.func29, Try.ntmps29
    go_wp2_with fail
    refine (IA _ (h.below (kA _))).mono ?_
    rintro e w1 ⟨rfl, b1⟩
    have hR := block_below b1 (heap_alloc_new w _)
    have b1 := below_box b1
    have lz := (Array.getElem?_eq_some_iff.1 hR).1
    obtain ⟨x0, x1, f0, f1⟩ := row2 hR
    go_wp2
    exact bodyPost_ret (v := .agg #[.int .i64 c, .slice none 0 0]) (by simp [results, Try.results29, go_sem, x0, x1]) rfl ⟨none, 0, 0, rfl, by omega, World.ownsRow_nil _ _ _ _, (b1.setCell (p := ⟨w.heap.size, 0, none⟩) (Nat.le_refl _) _).setCell (p := ⟨w.heap.size, 1, none⟩) (Nat.le_refl _) _⟩
  subst h0
  cases hv : Ch.inB v 0 9999
  · rw [hv] at IV
    rw [Ch.lookR_range HC.out hv]
    clear HC
    go_enter Try.func29, Try.ntmps29
    go_wp2_with fail
    refine (IA _ (h.below (kA _))).mono ?_
    rintro e w1 ⟨rfl, b1⟩
    have hR := block_below b1 (heap_alloc_new w _)
    have b1 := below_box b1
    have lz := (Array.getElem?_eq_some_iff.1 hR).1
    obtain ⟨x0, x1, f0, f1⟩ := row2 hR
    go_wp2_with fail
    refine (IV _).mono ?_
    rintro e w' ⟨rfl, rfl⟩
    go_wp2
    exact bodyPost_ret (v := .agg #[.int .i64 3, .slice none 0 0]) (by simp [results, Try.results29, go_sem, x0, x1]) rfl ⟨none, 0, 0, rfl, by omega, World.ownsRow_nil _ _ _ _, (b1.setCell (p := ⟨w.heap.size, 0, none⟩) (Nat.le_refl _) _).setCell (p := ⟨w.heap.size, 1, none⟩) (Nat.le_refl _) _⟩
  · rw [hv] at IV
    rw [Ch.lookR_ok HC.out hv]
    clear HC hv
    go_enter Try.func29, Try.ntmps29
    go_wp2_with fail
    refine (IA _ (h.below (kA _))).mono ?_
    rintro e w1 ⟨rfl, b1⟩
    have hR := block_below b1 (heap_alloc_new w _)
    have b1 := below_box b1
    go_wp2_with fail
    refine (IV _).mono ?_
    rintro e w' ⟨rfl, hw'⟩
    obtain rfl := hw'.symm
    clear IV
    have hl1 := (Array.getElem?_eq_some_iff.1 hR).1
    go_wp2_with fail
    refine (l9Look_any a n cap v ps _ (h.below b1) hn).mono ?_
    rintro e w2 ⟨a2, m2, c2, rfl, hm2, o2, b2⟩
    have hR2 := block_below b2 hR
    have lz := (Array.getElem?_eq_some_iff.1 hR2).1
    obtain ⟨x0, x1, f0, f1⟩ := row2 hR2
    have bE := b1.trans (b2.mono b1.size)
    go_wp2
    refine bodyPost_ret (v := .agg #[.int .i64 0, .slice a2 m2 c2]) (by simp [results, Try.results29, go_sem, x0, x1]) rfl ⟨a2, m2, c2, rfl, hm2, ?_, ?_⟩
    · refine owns_base (base := w1.heap.size) (ownsRow_setCell_below (ownsRow_setCell_below o2 ?_ _) ?_ _) (by omega)
      · show w.heap.size < w1.heap.size; omega
      · show w.heap.size < w1.heap.size; omega
    · exact (bE.setCell (p := ⟨w.heap.size, 0, none⟩) (Nat.le_refl _) _).setCell (p := ⟨w.heap.size, 1, none⟩) (Nat.le_refl _) _
end Go.Proofs.Ythfanfnbjldddaa
