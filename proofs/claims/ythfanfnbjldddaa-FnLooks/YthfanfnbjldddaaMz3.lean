/- Several texts in one: IxK, IxO, IxV. -/
import Derived.Test.YthfanfnbjldddaaIxF
import Derived.Test.YthfanfnbjldddaaIxG
import Derived.Test.YthfanfnbjldddaaLkN
import Derived.Test.YthfanfnbjldddaaAppX
import Derived.Test.YthfanfnbjldddaaMz4


/- LookIndex of the program and of the model. -/
namespace Go.Proofs.Ythfanfnbjldddaa
open Go.RowKit

theorem new_int (w : World) (r : Int) (t : TypeId) : CellsAt (w.alloc (.cells #[.int .i64 r] t)) (some ⟨w.heap.size, 0, none⟩) (1 * 1) (icells [r]) := by
  refine ⟨rfl, fun _ => ⟨_, _, rfl, fun i hi => ?_⟩⟩
  rw [Nat.zero_add]
  have := cell_of_row (w.alloc (.cells #[.int .i64 r] t)) _ i _ _ _ (heap_alloc_new w _)
  rw [this]
  simp [icells]
theorem own_empty (w : World) (B : Nat) (e : TypeId) (size : Nat) (hB : B ≤ w.heap.size) : (w.alloc (.cells #[] e)).ownsRow B e size (.slice (some ⟨w.heap.size, 0, none⟩) 0 0) 0 [] :=
  World.ownsRow_lit w #[] 0 hB (by unfold maxLen; omega) (by simp)

set_option linter.unusedSimpArgs false in
set_option maxRecDepth 20000 in
set_option maxHeartbeats 2000000 in
theorem implLook_any (a : Option Addr) (n cap : Nat) (v : Int) (ps : List Ch.Hold) (w : World) (h : CellsAt w a (n * 2) (hcells ps)) (hn : n ≤ 1048576) :
    Calls Try.prog 28 #[.slice a n cap, .int .i64 v] w fun e w' => ∃ a' m c', e = .returned (.agg #[.int .i64 (Ch.lookR ps v).1, .slice a' m c']) ∧ m ≤ 1048576 ∧ w'.ownsRow w.heap.size 2 1 (.slice a' m c') m (icells (Ch.lookR ps v).2) ∧ Below w.heap.size w w' := by
  have IA := fun W hW => implIx_any a n cap ps W hW hn
  have kA : ∀ o, Below w.heap.size w (w.alloc o) := fun o => (Below.refl _ _).alloc (Nat.le_refl _) o
  have HL := h.hlen
  obtain ⟨i0, hi0, hz0, hz1, hz2⟩ := info_parts Try.info2
  obtain ⟨c, HC⟩ : ∃ c, Hid (Ch.ixFault ps = c) := ⟨_, rfl⟩
  rw [HC.out] at IA
  have IV := fun W => isValue_any v W
  by_cases h0 : c = 0
  rotate_left
  · have hc : (c != 0) = true := by simpa using h0
    rw [Ch.lookR_code HC.out hc]
    clear HC h0
    go_enter Try.func28, Try.ntmps28
    go_wp2_with fail
    refine (IA _ (h.below (kA _))).mono ?_
    rintro e w1 ⟨rfl, b1⟩
    have hR := block_below b1 (heap_alloc_new w _)
    have b1 := below_box b1
    have lz := (Array.getElem?_eq_some_iff.1 hR).1
    obtain ⟨x0, x1, f0, f1⟩ := row2 hR
    go_wp2
    exact bodyPost_ret (v := .agg #[.int .i64 c, .slice none 0 0]) (by simp [results, Try.results28, go_sem, x0, x1]) rfl ⟨none, 0, 0, rfl, by omega, World.ownsRow_nil _ _ _ _, (b1.setCell (p := ⟨w.heap.size, 0, none⟩) (Nat.le_refl _) _).setCell (p := ⟨w.heap.size, 1, none⟩) (Nat.le_refl _) _⟩
  subst h0
  cases hv : Ch.inB v 0 9999
  · rw [hv] at IV
    rw [Ch.lookR_range HC.out hv]
    clear HC
    go_enter Try.func28, Try.ntmps28
    go_wp2_with fail
    refine (IA _ (h.below (kA _))).mono ?_
    rintro e w1 ⟨rfl, b1⟩
    have hR := block_below b1 (heap_alloc_new w _)
    have b1 := below_box b1
    have lz := (Array.getElem?_eq_some_iff.1 hR).1
    obtain ⟨x0, x1, f0, f1⟩ := row2 hR
    go_wp2_with fail
    refine (IV _).mono ?_
    rintro e w' ⟨rfl, rfl⟩
    go_wp2
    exact bodyPost_ret (v := .agg #[.int .i64 3, .slice none 0 0]) (by simp [results, Try.results28, go_sem, x0, x1]) rfl ⟨none, 0, 0, rfl, by omega, World.ownsRow_nil _ _ _ _, (b1.setCell (p := ⟨w.heap.size, 0, none⟩) (Nat.le_refl _) _).setCell (p := ⟨w.heap.size, 1, none⟩) (Nat.le_refl _) _⟩
  · rw [hv] at IV
    rw [Ch.lookR_ok HC.out hv]
    clear HC hv
    go_enter Try.func28, Try.ntmps28
    go_wp2_with fail
    refine (IA _ (h.below (kA _))).mono ?_
    rintro e w1 ⟨rfl, b1⟩
    have hR := block_below b1 (heap_alloc_new w _)
    have b1 := below_box b1
    have lz := (Array.getElem?_eq_some_iff.1 hR).1
    obtain ⟨x0, x1, f0, f1⟩ := row2 hR
    go_wp2_with fail
    refine (IV _).mono ?_
    rintro e w' ⟨rfl, hw'⟩
    obtain rfl := hw'.symm
    clear IV
    go_wp2
    go_loopw [21] (fun i wr => ∃ (k m : Nat) (a' : Option Addr) (c' : Nat), k ≤ n ∧ m ≤ k ∧ i = .int .i64 k ∧ wr.heap[w.heap.size]? = some (.cells #[.int .i64 0, .slice none 0 0] 57 (0, 0)) ∧ wr.heap[w1.heap.size]? = some (.cells #[.int .i64 0, .slice a' m c'] 57 (0, 0)) ∧ wr.ownsRow (w1.heap.size + 1) 2 1 (.slice a' m c') m (icells (Ch.lookL (ps.take k) v)) ∧ w1.heap.size + 1 ≤ wr.heap.size ∧ Below w.heap.size w wr) (fun i _ => n - (intOf i).toNat)
    case atStart => exact ⟨0, 0, none, 0, Nat.zero_le _, Nat.le_refl _, rfl, (heap_old' lz).trans hR, heap_alloc_new w1 _, World.ownsRow_nil _ _ _ _, by simp, b1.alloc b1.size _⟩
    case round =>
      clear hR x0 x1 f0 f1 IA
      obtain ⟨k, m, a', c', hk, hmk, rfl, hR, hX, own, hsz, hB⟩ := hrel
      obtain ⟨x0, x1, f0, f1⟩ := row2 hR
      obtain ⟨y0, y1, g0, g1⟩ := row2 hX
      have lr := (Array.getElem?_eq_some_iff.1 hR).1
      by_cases hlt : k < n
      · have hkl : k < ps.length := by have := HL.out; omega
        have HY := hid (fun he => Ch.lookL_yes (v := v) hkl he)
        have HN := hid (fun he => Ch.lookL_no (v := v) hkl he)
        obtain ⟨b, off, rfl, q0, q1⟩ := (h.below hB).hold hlt
        have hbl := lt_of_cell q0
        generalize ps.getD k Ch.Hold.zero = r at *
        obtain ⟨rt, rm⟩ := r
        simp only at q0 q1 HY HN
        generalize Ch.lookL (ps.take k) v = zs at *
        have hsum : m + 1 ≤ 4194304 := by omega
        have kW : Below wr.heap.size wr (wr.alloc (.cells #[.int .i64 rt, .int .i64 rm] 60)) := (Below.refl _ _).alloc (Nat.le_refl _) _
        have hR2 := block_below kW hR
        have hX2 := block_below kW hX
        have own2 := owns_below own kW
        have b2' := hB.trans (kW.mono hB.size)
        have z2 := kW.size
        by_cases hh : rt = v
        rotate_left
        · have e1 : (rt == v) = false := by simpa using hh
          go_wp2
          go_roundw
          case rel => exact ⟨k + 1, m, a', c', by omega, by omega, by go_num, hR2, hX2, by rw [HN.out e1]; exact own2, by omega, b2'⟩
          case measure => simp [intOf]; omega
        · have e1 : (rt == v) = true := by simpa using hh
          replace HY := hid (HY.out e1)
          clear HN hh
          obtain ⟨s0, s1, _, _⟩ := row2 (heap_alloc_new wr (.cells #[.int .i64 rt, .int .i64 rm] 60))
          have t1 := keep_cell kW y1
          have ly := lt_of_cell y0
          have kQ : Below (wr.alloc (.cells #[.int .i64 rt, .int .i64 rm] 60)).heap.size (wr.alloc (.cells #[.int .i64 rt, .int .i64 rm] 60)) ((wr.alloc (.cells #[.int .i64 rt, .int .i64 rm] 60)).alloc (.cells #[.int .i64 rm] 2)) := (Below.refl _ _).alloc (Nat.le_refl _) _
          have own3 := owns_below own2 kQ
          have hX3 := block_below kQ hX2
          have hR3 := block_below kQ hR2
          have hC3 := new_int (wr.alloc (.cells #[.int .i64 rt, .int .i64 rm] 60)) rm 2
          rw [show (wr.alloc (.cells #[.int .i64 rt, .int .i64 rm] 60)).heap.size = wr.heap.size + 1 by simp] at hC3
          have hb3 : w1.heap.size + 1 ≤ ((wr.alloc (.cells #[.int .i64 rt, .int .i64 rm] 60)).alloc (.cells #[.int .i64 rm] 2)).heap.size := by simp; omega
          have b3 := b2'.trans (kQ.mono b2'.size)
          go_wp2_with (at_builtin; go_must (refine wpList_appX Try.underlying55 Try.underlying55 hi0 hz0 hz1 hz2 rfl (by omega) (by omega) (.tmp 30) (.tmp 33) ?_ ?_ (w1.heap.size + 1) (.slice a' m c') m (icells zs) _ 1 1 (icells [rm]) ?_ ?_ own3 hC3 (icells_one' [rm]) hsum hb3 ?_; exact rfl; exact rfl; exact rfl; exact rfl; intro a5 c5 w5 own5 gr5 at5; have hX5 := block_grown gr5 hX3 (own_apart own3 (by omega)); have hR5 := block_grown gr5 hR3 (own_apart own3 (by omega)); obtain ⟨v0, v1, e0, e1⟩ := row2 hX5; have lv := lt_of_cell v0; go_frame))
          go_roundw
          case rel =>
            rw [← icells_append, ← HY.out] at own5
            have b5 := b3.grown gr5 b3.size (fun g hg => by have := (owns_lt own3 g hg).1; omega)
            refine ⟨k + 1, m + 1, a5, c5, by omega, by omega, by go_num, ?_, ?_, ?_, ?_, b5.setCell (p := ⟨w1.heap.size, 1, none⟩) (by show w.heap.size ≤ w1.heap.size; omega) _⟩
            · exact (Below.heap_setCell _ _ _ _ (by show w.heap.size ≠ w1.heap.size; omega)).trans hR5
            · have := Joins.block_setCell (i := 1) hX5 (.slice a5 (m + 1) c5)
              simpa using this
            · exact ownsRow_setCell_below own5 (by show w1.heap.size < w1.heap.size + 1; omega) _
            · have := gr5.size; simp at this ⊢; omega
          case measure => simp [intOf]; omega
      · obtain rfl : k = n := by omega
        have HWF : Hid (ps.take k = ps) := by have := HL.out; show _ = _; rw [this]; exact List.take_length
        rw [HWF.out] at own
        go_wp2
        refine bodyPost_ret (v := .agg #[.int .i64 0, .slice a' m c']) (by simp [results, Try.results28, go_sem, x0, x1]) rfl ⟨a', m, c', rfl, by omega, ?_, ?_⟩
        · refine owns_base (base := w1.heap.size + 1) (ownsRow_setCell_below (ownsRow_setCell_below own ?_ _) ?_ _) (by omega)
          · show w.heap.size < w1.heap.size + 1; omega
          · show w.heap.size < w1.heap.size + 1; omega
        · exact (hB.setCell (p := ⟨w.heap.size, 0, none⟩) (Nat.le_refl _) _).setCell (p := ⟨w.heap.size, 1, none⟩) (Nat.le_refl _) _

set_option linter.unusedSimpArgs false in
set_option maxRecDepth 20000 in
set_option maxHeartbeats 2000000 in
theorem l9Look_any (a : Option Addr) (n cap : Nat) (v : Int) (ps : List Ch.Hold) (w : World) (h : CellsAt w a (n * 2) (hcells ps)) (hn : n ≤ 1048576) :
    Calls Try.prog 82 #[.slice a n cap, .int .i64 v] w fun e w' => ∃ a' m c', e = .returned (.slice a' m c') ∧ m ≤ 1048576 ∧ w'.ownsRow w.heap.size 2 1 (.slice a' m c') m (icells (Ch.lookL ps v)) ∧ Below w.heap.size w w' := by
  have HL := h.hlen
  obtain ⟨i0, hi0, hz0, hz1, hz2⟩ := info_parts Try.info2
  have oE := own_empty w w.heap.size 2 1 (Nat.le_refl _)
  have kE : Below w.heap.size w (w.alloc (.cells #[] 2)) := (Below.refl _ _).alloc (Nat.le_refl _) _
  go_enter Try.func82, Try.ntmps82
  go_wp2
  go_loopw [5, 6] (fun q i wr => ∃ (k m : Nat) (a' : Option Addr) (c' : Nat), k ≤ n ∧ m ≤ k ∧ i = .int .i64 k ∧ q = .slice a' m c' ∧ wr.ownsRow w.heap.size 2 1 (.slice a' m c') m (icells (Ch.lookL (ps.take k) v)) ∧ Below w.heap.size w wr) (fun _ i _ => n - (intOf i).toNat)
  case atStart => exact ⟨0, 0, _, _, Nat.zero_le _, Nat.le_refl _, rfl, rfl, oE, kE⟩
  case round =>
    clear oE kE
    obtain ⟨k, m, a', c', hk, hmk, rfl, rfl, own, hB⟩ := hrel
    by_cases hlt : k < n
    · have hkl : k < ps.length := by have := HL.out; omega
      have HY := hid (fun he => Ch.lookL_yes (v := v) hkl he)
      have HN := hid (fun he => Ch.lookL_no (v := v) hkl he)
      obtain ⟨b, off, rfl, q0, q1⟩ := (h.below hB).hold hlt
      have hbl := lt_of_cell q0
      generalize ps.getD k Ch.Hold.zero = r at *
      obtain ⟨rt, rm⟩ := r
      simp only at q0 q1 HY HN
      generalize Ch.lookL (ps.take k) v = zs at *
      have hsum : m + 1 ≤ 4194304 := by omega
      by_cases hh : rt = v
      rotate_left
      · have e1 : (rt == v) = false := by simpa using hh
        go_wp2
        go_roundw
        case rel => exact ⟨k + 1, m, a', c', by omega, by omega, by go_num, rfl, by rw [HN.out e1]; exact own, hB⟩
        case measure => simp [intOf]; omega
      · have e1 : (rt == v) = true := by simpa using hh
        replace HY := hid (HY.out e1)
        clear HN hh
        have kQ : Below wr.heap.size wr (wr.alloc (.cells #[.int .i64 rm] 2)) := (Below.refl _ _).alloc (Nat.le_refl _) _
        have own3 := owns_below own kQ
        have hC3 := new_int wr rm 2
        have hb3 : w.heap.size ≤ (wr.alloc (.cells #[.int .i64 rm] 2)).heap.size := by have := hB.size; simp; omega
        have b3 := hB.trans (kQ.mono hB.size)
        go_wp2_with (at_builtin; go_must (refine wpList_appX Try.underlying55 Try.underlying55 hi0 hz0 hz1 hz2 rfl (by omega) (by omega) (.tmp 21) (.tmp 27) ?_ ?_ w.heap.size (.slice a' m c') m (icells zs) _ 1 1 (icells [rm]) ?_ ?_ own3 hC3 (icells_one' [rm]) hsum hb3 ?_; exact rfl; exact rfl; exact rfl; exact rfl; intro a5 c5 w5 own5 gr5 at5; go_frame))
        go_roundw
        case rel =>
          rw [← icells_append, ← HY.out] at own5
          exact ⟨k + 1, m + 1, a5, c5, by omega, by omega, by go_num, rfl, own5, b3.grown gr5 b3.size (fun g hg => (owns_lt own3 g hg).1)⟩
        case measure => simp [intOf]; omega
    · obtain rfl : k = n := by omega
      have HWF : Hid (ps.take k = ps) := by have := HL.out; show _ = _; rw [this]; exact List.take_length
      rw [HWF.out] at own
      go_wp2
      go_ret
      exact ⟨a', m, c', rfl, by omega, own, hB⟩

set_option linter.unusedSimpArgs false in
set_option maxRecDepth 20000 in
set_option maxHeartbeats 2000000 in
theorem specLook_any (a : Option Addr) (n cap : Nat) (v : Int) (ps : List Ch.Hold) (w : World) (h : CellsAt w a (n * 2) (hcells ps)) (hn : n ≤ 1048576) :
    Calls Try.prog 29 #[.slice a n cap, .int .i64 v] w fun e w' => ∃ a' m c', e = .returned (.agg #[.int .i64 (Ch.lookR ps v).1, .slice a' m c']) ∧ m ≤ 1048576 ∧ w'.ownsRow w.heap.size 2 1 (.slice a' m c') m (icells (Ch.lookR ps v).2) ∧ Below w.heap.size w w' := by
  have IA := fun W hW => specIx_any a n cap ps W hW hn
  have kA : ∀ o, Below w.heap.size w (w.alloc o) := fun o => (Below.refl _ _).alloc (Nat.le_refl _) o
  obtain ⟨c, HC⟩ : ∃ c, Hid (Ch.ixFault ps = c) := ⟨_, rfl⟩
  rw [HC.out] at IA
  have IV := fun W => value_any v W
  by_cases h0 : c = 0
  rotate_left
  · have hc : (c != 0) = true := by simpa using h0
    rw [Ch.lookR_code HC.out hc]
    clear HC h0
    go_enter Try.func29, Try.ntmps29
    go_wp2_with fail
    refine (IA _ (h.below (kA _))).mono ?_
    rintro e w1 ⟨rfl, b1⟩
    have hR := block_below b1 (heap_alloc_new w _)
    have b1 := below_box b1
    have lz := (Array.getElem?_eq_some_iff.1 hR).1
    obtain ⟨x0, x1, f0, f1⟩ := row2 hR
    go_wp2
    exact bodyPost_ret (v := .agg #[.int .i64 c, .slice none 0 0]) (by simp [results, Try.results29, go_sem, x0, x1]) rfl ⟨none, 0, 0, rfl, by omega, World.ownsRow_nil _ _ _ _, (b1.setCell (p := ⟨w.heap.size, 0, none⟩) (Nat.le_refl _) _).setCell (p := ⟨w.heap.size, 1, none⟩) (Nat.le_refl _) _⟩
  subst h0
  cases hv : Ch.inB v 0 9999
  · rw [hv] at IV
    rw [Ch.lookR_range HC.out hv]
    clear HC
    go_enter Try.func29, Try.ntmps29
    go_wp2_with fail
    refine (IA _ (h.below (kA _))).mono ?_
    rintro e w1 ⟨rfl, b1⟩
    have hR := block_below b1 (heap_alloc_new w _)
    have b1 := below_box b1
    have lz := (Array.getElem?_eq_some_iff.1 hR).1
    obtain ⟨x0, x1, f0, f1⟩ := row2 hR
    go_wp2_with fail
    refine (IV _).mono ?_
    rintro e w' ⟨rfl, rfl⟩
    go_wp2
    exact bodyPost_ret (v := .agg #[.int .i64 3, .slice none 0 0]) (by simp [results, Try.results29, go_sem, x0, x1]) rfl ⟨none, 0, 0, rfl, by omega, World.ownsRow_nil _ _ _ _, (b1.setCell (p := ⟨w.heap.size, 0, none⟩) (Nat.le_refl _) _).setCell (p := ⟨w.heap.size, 1, none⟩) (Nat.le_refl _) _⟩
  · rw [hv] at IV
    rw [Ch.lookR_ok HC.out hv]
    clear HC hv
    go_enter Try.func29, Try.ntmps29
    go_wp2_with fail
    refine (IA _ (h.below (kA _))).mono ?_
    rintro e w1 ⟨rfl, b1⟩
    have hR := block_below b1 (heap_alloc_new w _)
    have b1 := below_box b1
    go_wp2_with fail
    refine (IV _).mono ?_
    rintro e w' ⟨rfl, hw'⟩
    obtain rfl := hw'.symm
    clear IV
    have hl1 := (Array.getElem?_eq_some_iff.1 hR).1
    go_wp2_with fail
    refine (l9Look_any a n cap v ps _ (h.below b1) hn).mono ?_
    rintro e w2 ⟨a2, m2, c2, rfl, hm2, o2, b2⟩
    have hR2 := block_below b2 hR
    have lz := (Array.getElem?_eq_some_iff.1 hR2).1
    obtain ⟨x0, x1, f0, f1⟩ := row2 hR2
    have bE := b1.trans (b2.mono b1.size)
    go_wp2
    refine bodyPost_ret (v := .agg #[.int .i64 0, .slice a2 m2 c2]) (by simp [results, Try.results29, go_sem, x0, x1]) rfl ⟨a2, m2, c2, rfl, hm2, ?_, ?_⟩
    · refine owns_base (base := w1.heap.size) (ownsRow_setCell_below (ownsRow_setCell_below o2 ?_ _) ?_ _) (by omega)
      · show w.heap.size < w1.heap.size; omega
      · show w.heap.size < w1.heap.size; omega
    · exact (bE.setCell (p := ⟨w.heap.size, 0, none⟩) (Nat.le_refl _) _).setCell (p := ⟨w.heap.size, 1, none⟩) (Nat.le_refl _) _
end Go.Proofs.Ythfanfnbjldddaa


/- The model's l9Put: a pair in its place. -/
namespace Go.Proofs.Ythfanfnbjldddaa
open Go.RowKit

theorem new_empty (V : World) (e : TypeId) (size : Nat) : (V.alloc (.cells #[] e)).ownsRow V.heap.size e size (.slice (some ⟨V.heap.size, 0, none⟩) 0 0) 0 [] := own_empty V _ e size (Nat.le_refl _)
/-- What l9Put answers. -/
def PutP (B n : Nat) (es : List Ch.Hold) (t m : Int) (w : World) (e : Ending) (w' : World) : Prop :=
  ∃ g' n' c', e = .returned (.slice (some ⟨g', 0, none⟩) n' c') ∧ w'.ownsRow B 60 2 (.slice (some ⟨g', 0, none⟩) n' c') n' (hcells (Ch.insP es ⟨t, m⟩)) ∧ n' ≤ n + 1 ∧ Below w.heap.size w w'

set_option linter.unusedSimpArgs false in
set_option maxRecDepth 20000 in
set_option maxHeartbeats 8000000 in
theorem l9Put_any (B g n c : Nat) (es : List Ch.Hold) (t m : Int) (w : World) (own : w.ownsRow B 60 2 (.slice (some ⟨g, 0, none⟩) n c) n (hcells es)) (hn : n ≤ 1048576) (hB : B ≤ w.heap.size) :
    Calls Try.prog 122 #[.slice (some ⟨g, 0, none⟩) n c, .agg #[.int .i64 t, .int .i64 m]] w fun e w' => PutP B n es t m w e w' := by
  have h4 := owns_cells own
  have HL := h4.hlen
  have hcap := owns_cap own
  have hgl := (owns_lt own g rfl).2
  obtain ⟨j0, gi0, gz0, gz1, gz2⟩ := info_parts Try.info60
  have kA : Below w.heap.size w (w.alloc (.cells #[.int .i64 t, .int .i64 m] 60)) := (Below.refl _ _).alloc (Nat.le_refl _) _
  obtain ⟨y0, y1, _, _⟩ := row2 (heap_alloc_new w (.cells #[.int .i64 t, .int .i64 m] 60))
  have yl := lt_of_cell y0
  go_enter Try.func122, Try.ntmps122
  go_wp2
  go_loopw [5] (fun i wr => ∃ k : Nat, k ≤ n ∧ i = .int .i64 k ∧ Hid (∀ j, j < k → Ch.ltE (es.getD j Ch.Hold.zero) ⟨t, m⟩ = true) ∧ wr.cell? ⟨w.heap.size, 0, none⟩ = some (.int .i64 t) ∧ wr.cell? ⟨w.heap.size, 1, none⟩ = some (.int .i64 m) ∧ w.heap.size < wr.heap.size ∧ Below w.heap.size w wr) (fun i _ => n - (intOf i).toNat)
  case atStart => exact ⟨0, Nat.zero_le _, rfl, (fun j hj => by omega), y0, y1, yl, kA⟩
  case round =>
    clear y0 y1 yl kA
    obtain ⟨k, hk, rfl, HA, z0, z1, ll, hW⟩ := hrel
    by_cases hlt : k < n
    · have hkl : k < es.length := by have := HL.out; omega
      have HS := hid (fun he => Ch.step_all (p := fun j => Ch.ltE (es.getD j Ch.Hold.zero) ⟨t, m⟩) HA.out he)
      have HE := hid (fun he => Ch.insP_at (l := es) (e := ⟨t, m⟩) (k := k) (by omega) HA.out (fun _ => he))
      obtain ⟨b, off, hbo, q0, q1⟩ := (h4.below hW).hold hlt
      simp only [Option.some.injEq, Addr.mk.injEq, and_true] at hbo
      obtain ⟨rfl, rfl⟩ := hbo
      rw [Nat.zero_add] at q0 q1
      have hqb := lt_of_cell q0
      generalize es.getD k Ch.Hold.zero = r at *
      obtain ⟨rt, rm⟩ := r
      simp only at q0 q1
      have IC := fun W => behind_any rt rm t m W
      have hd0 : (k : Int) < (n : Int) := by omega
      cases hl : Ch.ltE ⟨rt, rm⟩ ⟨t, m⟩
      rotate_left
      · rw [hl] at IC
        replace HS := hid (HS.out hl)
        clear HE hl
        go_wp2_with fail
        refine wp_region_noPanic ?_
        refine wp_region_held_drew (S := fun W' => W'.cell? ⟨w.heap.size, 0, none⟩ = some (.int .i64 t) ∧ W'.cell? ⟨w.heap.size, 1, none⟩ = some (.int .i64 m) ∧ W'.cell? ⟨g, k * 2, none⟩ = some (.int .i64 rt) ∧ W'.cell? ⟨g, k * 2 + 1, none⟩ = some (.int .i64 rm) ∧ w.heap.size < W'.heap.size ∧ Below w.heap.size w W') (by kernel_rfl) (⟨z0, z1, q0, q1, ll, hW.drew⟩) (fun hH => ?_)
        refine hTake (i := 0) (v := ?_) rfl (by kernel_rfl) (by kernel_rfl) (by kernel_rfl) (by rfl) ?_ hH ?_
        rotate_left
        · intro W hW; (try dsimp only at hW); go_simp <;> with_reducible rfl
        simp only [Act.put, List.setIfInBounds_toArray, List.set_cons_zero, List.set_cons_succ]
        refine hTake (i := 1) (v := ?_) rfl (by kernel_rfl) (by kernel_rfl) (by kernel_rfl) (by rfl) ?_ hH ?_
        rotate_left
        · intro W hW; (try dsimp only at hW); go_simp <;> with_reducible rfl
        simp only [Act.put, List.setIfInBounds_toArray, List.set_cons_zero, List.set_cons_succ]
        refine hTake (i := 2) (v := ?_) rfl (by kernel_rfl) (by kernel_rfl) (by kernel_rfl) (by rfl) ?_ hH ?_
        rotate_left
        · intro W hW; (try dsimp only at hW); go_simp <;> with_reducible rfl
        simp only [Act.put, List.setIfInBounds_toArray, List.set_cons_zero, List.set_cons_succ]
        refine hTake (i := 3) (v := ?_) rfl (by kernel_rfl) (by kernel_rfl) (by kernel_rfl) (by rfl) ?_ hH ?_
        rotate_left
        · intro W hW; (try dsimp only at hW); go_simp <;> with_reducible rfl
        simp only [Act.put, List.setIfInBounds_toArray, List.set_cons_zero, List.set_cons_succ]
        refine hTake (i := 4) (v := ?_) rfl (by kernel_rfl) (by kernel_rfl) (by kernel_rfl) (by rfl) ?_ hH ?_
        rotate_left
        · intro W hW; (try dsimp only at hW); go_simp <;> with_reducible rfl
        simp only [Act.put, List.setIfInBounds_toArray, List.set_cons_zero, List.set_cons_succ]
        refine hTake (i := 5) (v := ?_) rfl (by kernel_rfl) (by kernel_rfl) (by kernel_rfl) (by rfl) ?_ hH ?_
        rotate_left
        · intro W hW; (try dsimp only at hW); go_simp <;> with_reducible rfl
        simp only [Act.put, List.setIfInBounds_toArray, List.set_cons_zero, List.set_cons_succ]
        refine hTake (i := 6) (v := ?_) rfl (by kernel_rfl) (by kernel_rfl) (by kernel_rfl) (by rfl) ?_ hH ?_
        rotate_left
        · intro W hW; (try dsimp only at hW); go_simp <;> with_reducible rfl
        simp only [Act.put, List.setIfInBounds_toArray, List.set_cons_zero, List.set_cons_succ]
        refine hTake (i := 7) (v := ?_) rfl (by kernel_rfl) (by kernel_rfl) (by kernel_rfl) (by rfl) ?_ hH ?_
        rotate_left
        · intro W hW; (try dsimp only at hW); go_simp <;> with_reducible rfl
        simp only [Act.put, List.setIfInBounds_toArray, List.set_cons_zero, List.set_cons_succ]
        refine hTake (i := 8) (v := ?_) rfl (by kernel_rfl) (by kernel_rfl) (by kernel_rfl) (by rfl) ?_ hH ?_
        rotate_left
        · intro W hW; (try dsimp only at hW); go_simp <;> with_reducible rfl
        simp only [Act.put, List.setIfInBounds_toArray, List.set_cons_zero, List.set_cons_succ]
        refine hTake (i := 9) (v := ?_) rfl (by kernel_rfl) (by kernel_rfl) (by kernel_rfl) (by rfl) ?_ hH ?_
        rotate_left
        · intro W hW; (try dsimp only at hW); go_simp <;> with_reducible rfl
        simp only [Act.put, List.setIfInBounds_toArray, List.set_cons_zero, List.set_cons_succ]
        refine wpAnyH_ready (rs := [10]) (by kernel_rfl) (by simp) ?_
        refine AllReadyH.cons rfl (fun K hK => ?_) AllReadyH.nil
        go_simp
        refine (IC _).mono ?_
        rintro e w9 ⟨rfl, b9⟩
        refine hK.out _ _ ?_ (fun hH => ?_)
        · exact ⟨keep_cell b9 hH.1, keep_cell b9 hH.2.1, keep_cell b9 hH.2.2.1, keep_cell b9 hH.2.2.2.1, Nat.lt_of_lt_of_le hH.2.2.2.2.1 b9.size, hH.2.2.2.2.2.trans (b9.mono hH.2.2.2.2.2.size)⟩
        clear hK K
        refine hTake (i := 11) (v := ?_) rfl (by kernel_rfl) (by kernel_rfl) (by kernel_rfl) (by rfl) ?_ hH ?_
        rotate_left
        · intro W hW; (try dsimp only at hW); go_simp <;> with_reducible rfl
        simp only [Act.put, List.setIfInBounds_toArray, List.set_cons_zero, List.set_cons_succ]
        refine wpAnyH_done (by kernel_rfl) ?_ _
        refine NoPanic.normal ?_
        go_wp2
        go_roundw
        case rel => exact ⟨k + 1, by omega, by go_num, HS.out, hH.1, hH.2.1, hH.2.2.2.2.1, hH.2.2.2.2.2⟩
        case measure => simp [intOf]; omega
      · rw [hl] at IC
        have HI := hid (HE.out hl)
        clear HS HE hl
        go_wp2_with fail
        refine wp_region_noPanic ?_
        refine wp_region_held_drew (S := fun W' => W'.cell? ⟨w.heap.size, 0, none⟩ = some (.int .i64 t) ∧ W'.cell? ⟨w.heap.size, 1, none⟩ = some (.int .i64 m) ∧ W'.cell? ⟨g, k * 2, none⟩ = some (.int .i64 rt) ∧ W'.cell? ⟨g, k * 2 + 1, none⟩ = some (.int .i64 rm) ∧ w.heap.size < W'.heap.size ∧ Below w.heap.size w W') (by kernel_rfl) (⟨z0, z1, q0, q1, ll, hW.drew⟩) (fun hH => ?_)
        refine hTake (i := 0) (v := ?_) rfl (by kernel_rfl) (by kernel_rfl) (by kernel_rfl) (by rfl) ?_ hH ?_
        rotate_left
        · intro W hW; (try dsimp only at hW); go_simp <;> with_reducible rfl
        simp only [Act.put, List.setIfInBounds_toArray, List.set_cons_zero, List.set_cons_succ]
        refine hTake (i := 1) (v := ?_) rfl (by kernel_rfl) (by kernel_rfl) (by kernel_rfl) (by rfl) ?_ hH ?_
        rotate_left
        · intro W hW; (try dsimp only at hW); go_simp <;> with_reducible rfl
        simp only [Act.put, List.setIfInBounds_toArray, List.set_cons_zero, List.set_cons_succ]
        refine hTake (i := 2) (v := ?_) rfl (by kernel_rfl) (by kernel_rfl) (by kernel_rfl) (by rfl) ?_ hH ?_
        rotate_left
        · intro W hW; (try dsimp only at hW); go_simp <;> with_reducible rfl
        simp only [Act.put, List.setIfInBounds_toArray, List.set_cons_zero, List.set_cons_succ]
        refine hTake (i := 3) (v := ?_) rfl (by kernel_rfl) (by kernel_rfl) (by kernel_rfl) (by rfl) ?_ hH ?_
        rotate_left
        · intro W hW; (try dsimp only at hW); go_simp <;> with_reducible rfl
        simp only [Act.put, List.setIfInBounds_toArray, List.set_cons_zero, List.set_cons_succ]
        refine hTake (i := 4) (v := ?_) rfl (by kernel_rfl) (by kernel_rfl) (by kernel_rfl) (by rfl) ?_ hH ?_
        rotate_left
        · intro W hW; (try dsimp only at hW); go_simp <;> with_reducible rfl
        simp only [Act.put, List.setIfInBounds_toArray, List.set_cons_zero, List.set_cons_succ]
        refine hTake (i := 5) (v := ?_) rfl (by kernel_rfl) (by kernel_rfl) (by kernel_rfl) (by rfl) ?_ hH ?_
        rotate_left
        · intro W hW; (try dsimp only at hW); go_simp <;> with_reducible rfl
        simp only [Act.put, List.setIfInBounds_toArray, List.set_cons_zero, List.set_cons_succ]
        refine hTake (i := 6) (v := ?_) rfl (by kernel_rfl) (by kernel_rfl) (by kernel_rfl) (by rfl) ?_ hH ?_
        rotate_left
        · intro W hW; (try dsimp only at hW); go_simp <;> with_reducible rfl
        simp only [Act.put, List.setIfInBounds_toArray, List.set_cons_zero, List.set_cons_succ]
        refine hTake (i := 7) (v := ?_) rfl (by kernel_rfl) (by kernel_rfl) (by kernel_rfl) (by rfl) ?_ hH ?_
        rotate_left
        · intro W hW; (try dsimp only at hW); go_simp <;> with_reducible rfl
        simp only [Act.put, List.setIfInBounds_toArray, List.set_cons_zero, List.set_cons_succ]
        refine hTake (i := 8) (v := ?_) rfl (by kernel_rfl) (by kernel_rfl) (by kernel_rfl) (by rfl) ?_ hH ?_
        rotate_left
        · intro W hW; (try dsimp only at hW); go_simp <;> with_reducible rfl
        simp only [Act.put, List.setIfInBounds_toArray, List.set_cons_zero, List.set_cons_succ]
        refine hTake (i := 9) (v := ?_) rfl (by kernel_rfl) (by kernel_rfl) (by kernel_rfl) (by rfl) ?_ hH ?_
        rotate_left
        · intro W hW; (try dsimp only at hW); go_simp <;> with_reducible rfl
        simp only [Act.put, List.setIfInBounds_toArray, List.set_cons_zero, List.set_cons_succ]
        refine wpAnyH_ready (rs := [10]) (by kernel_rfl) (by simp) ?_
        refine AllReadyH.cons rfl (fun K hK => ?_) AllReadyH.nil
        go_simp
        refine (IC _).mono ?_
        rintro e w9 ⟨rfl, b9⟩
        refine hK.out _ _ ?_ (fun hH => ?_)
        · exact ⟨keep_cell b9 hH.1, keep_cell b9 hH.2.1, keep_cell b9 hH.2.2.1, keep_cell b9 hH.2.2.2.1, Nat.lt_of_lt_of_le hH.2.2.2.2.1 b9.size, hH.2.2.2.2.2.trans (b9.mono hH.2.2.2.2.2.size)⟩
        clear hK K
        refine hTake (i := 11) (v := ?_) rfl (by kernel_rfl) (by kernel_rfl) (by kernel_rfl) (by rfl) ?_ hH ?_
        rotate_left
        · intro W hW; (try dsimp only at hW); go_simp <;> with_reducible rfl
        simp only [Act.put, List.setIfInBounds_toArray, List.set_cons_zero, List.set_cons_succ]
        refine wpAnyH_done (by kernel_rfl) ?_ _
        refine NoPanic.normal ?_
        clear z0 z1 q0 q1 hW ll
        go_wp2_with fail
        have hkc : k ≤ c := by omega
        have hck2 : ¬ c = k := by omega
        have H1a : ∀ u ∈ (hcells es).take (k * 2), u.oneCell' = true := fun u hu => hcells_one' es u (List.mem_of_mem_take hu)
        have H1b : ∀ u ∈ (hcells es).drop (k * 2), u.oneCell' = true := fun u hu => hcells_one' es u (List.mem_of_mem_drop hu)
        have hCa := cut_take h4 (k := k * 2) (by omega)
        have hCb : CellsAt w (some ⟨g, k * 2, none⟩) ((n - k) * 2) ((hcells es).drop (k * 2)) := by have := cut_drop h4 (k := k * 2) (by omega); rw [Nat.zero_add, ← Nat.sub_mul] at this; exact this
        refine wp_region_noPanic ?_
        refine wp_region_held_drew (S := fun W' => W'.cell? ⟨w.heap.size, 0, none⟩ = some (.int .i64 t) ∧ W'.cell? ⟨w.heap.size, 1, none⟩ = some (.int .i64 m) ∧ W'.cell? ⟨g, k * 2, none⟩ = some (.int .i64 rt) ∧ W'.cell? ⟨g, k * 2 + 1, none⟩ = some (.int .i64 rm) ∧ w.heap.size < W'.heap.size ∧ Below w.heap.size w W') (by kernel_rfl) (⟨hH.1, hH.2.1, hH.2.2.1, hH.2.2.2.1, hH.2.2.2.2.1, hH.2.2.2.2.2.drew⟩) (fun hH => ?_)
        generalize w9.drew = wq at *
        refine hTake (i := 1) (v := ?_) rfl (by kernel_rfl) (by kernel_rfl) (by kernel_rfl) (by rfl) ?_ hH ?_
        rotate_left
        · intro W hW; (try dsimp only at hW); go_simp <;> with_reducible rfl
        simp only [Act.put, List.setIfInBounds_toArray, List.set_cons_zero, List.set_cons_succ]
        refine hTake (i := 2) (v := ?_) rfl (by kernel_rfl) (by kernel_rfl) (by kernel_rfl) (by rfl) ?_ hH ?_
        rotate_left
        · intro W hW; (try dsimp only at hW); go_simp <;> with_reducible rfl
        simp only [Act.put, List.setIfInBounds_toArray, List.set_cons_zero, List.set_cons_succ]
        refine hTake (i := 3) (v := ?_) rfl (by kernel_rfl) (by kernel_rfl) (by kernel_rfl) (by rfl) ?_ hH ?_
        rotate_left
        · intro W hW; (try dsimp only at hW); go_simp <;> with_reducible rfl
        simp only [Act.put, List.setIfInBounds_toArray, List.set_cons_zero, List.set_cons_succ]
        refine hTake (i := 5) (v := ?_) rfl (by kernel_rfl) (by kernel_rfl) (by kernel_rfl) (by rfl) ?_ hH ?_
        rotate_left
        · intro W hW; (try dsimp only at hW); go_simp <;> with_reducible rfl
        simp only [Act.put, List.setIfInBounds_toArray, List.set_cons_zero, List.set_cons_succ]
        refine hTake (i := 8) (v := ?_) rfl (by kernel_rfl) (by kernel_rfl) (by kernel_rfl) (by rfl) ?_ hH ?_
        rotate_left
        · intro W hW; (try dsimp only at hW); go_simp <;> with_reducible rfl
        simp only [Act.put, List.setIfInBounds_toArray, List.set_cons_zero, List.set_cons_succ]
        refine hTake (i := 9) (v := ?_) rfl (by kernel_rfl) (by kernel_rfl) (by kernel_rfl) (by rfl) ?_ hH ?_
        rotate_left
        · intro W hW; (try dsimp only at hW); go_simp <;> with_reducible rfl
        simp only [Act.put, List.setIfInBounds_toArray, List.set_cons_zero, List.set_cons_succ]
        refine hTake (i := 10) (v := ?_) rfl (by kernel_rfl) (by kernel_rfl) (by kernel_rfl) (by rfl) ?_ hH ?_
        rotate_left
        · intro W hW; (try dsimp only at hW); go_simp <;> with_reducible rfl
        simp only [Act.put, List.setIfInBounds_toArray, List.set_cons_zero, List.set_cons_succ]
        refine wpAnyH_ready (rs := [0, 6]) (by kernel_rfl) (by simp) ?_
        refine AllReadyH.cons rfl (fun K hK => ?_) (AllReadyH.cons rfl (fun K hK => ?_) AllReadyH.nil)
        · have oE := owns_base (base' := w.heap.size + 1) (new_empty wq 60 2) (by have := hH.2.2.2.2.1; omega)
          have kE : Below wq.heap.size wq (wq.alloc (.cells #[] 60)) := (Below.refl _ _).alloc (Nat.le_refl _) _
          go_simp
          refine hK.out _ _ ⟨keep_cell kE hH.1, keep_cell kE hH.2.1, keep_cell kE hH.2.2.1, keep_cell kE hH.2.2.2.1, Nat.lt_of_lt_of_le hH.2.2.2.2.1 kE.size, hH.2.2.2.2.2.trans (kE.mono hH.2.2.2.2.2.size)⟩ (fun hH => ?_)
          clear hK K
          clear kE
          refine wpAnyH_ready (rs := [4, 6]) (by kernel_rfl) (by simp) ?_
          refine AllReadyH.cons rfl (fun K hK => ?_) (AllReadyH.cons rfl (fun K hK => ?_) AllReadyH.nil)
          · have hCx := hCa.below hH.2.2.2.2.2
            refine step_appX Try.underlying52 Try.underlying52 gi0 gz0 gz1 gz2 rfl (by omega) (by omega) (.tmp 20) (.tmp 23) rfl rfl (w.heap.size + 1) (.slice (some ⟨wq.heap.size, 0, none⟩) 0 0) 0 [] (some ⟨g, 0, none⟩) k c ((hcells es).take (k * 2)) rfl rfl oE hCx H1a (by omega) (by omega) ?_
            intro a5 c5 w5 own5 gr5 at5
            simp only [Nat.zero_add, List.nil_append] at own5 at5 ⊢
            refine hK.out _ _ ⟨grown_cell gr5 hH.1 (fun e => by have := (owns_lt oE _ e).1; omega), grown_cell gr5 hH.2.1 (fun e => by have := (owns_lt oE _ e).1; omega), grown_cell gr5 hH.2.2.1 (fun e => by have := (owns_lt oE _ e).1; omega), grown_cell gr5 hH.2.2.2.1 (fun e => by have := (owns_lt oE _ e).1; omega), Nat.lt_of_lt_of_le hH.2.2.2.2.1 gr5.size, hH.2.2.2.2.2.grown gr5 hH.2.2.2.2.2.size (fun g hg => by have := (owns_lt oE g hg).1; omega)⟩ (fun hH => ?_)
            clear hK K gr5 at5 oE hCx
            simp only [Act.put, List.setIfInBounds_toArray, List.set_cons_zero, List.set_cons_succ]
            refine wpAnyH_ready (rs := [6]) (by kernel_rfl) (by simp) ?_
            refine AllReadyH.cons rfl (fun K hK => ?_) AllReadyH.nil
            · have kN : Below w5.heap.size w5 (w5.alloc (.cells #[.int .i64 t, .int .i64 m] 60)) := (Below.refl _ _).alloc (Nat.le_refl _) _
              have hCN := new_hold w5 t m 60
              go_simp
              refine hK.out _ _ ⟨keep_cell kN hH.1, keep_cell kN hH.2.1, keep_cell kN hH.2.2.1, keep_cell kN hH.2.2.2.1, Nat.lt_of_lt_of_le hH.2.2.2.2.1 kN.size, hH.2.2.2.2.2.trans (kN.mono hH.2.2.2.2.2.size)⟩ (fun hH => ?_)
              clear hK K
              replace own5 := owns_below own5 kN
              clear kN
              refine wpAnyH_ready (rs := [7]) (by kernel_rfl) (by simp) ?_
              refine AllReadyH.cons rfl (fun K hK => ?_) AllReadyH.nil
              · refine step_appX Try.underlying52 Try.underlying52 gi0 gz0 gz1 gz2 rfl (by omega) (by omega) (.tmp 24) (.tmp 26) rfl rfl (w.heap.size + 1) (.slice a5 k c5) k ((hcells es).take (k * 2)) _ 1 1 (hcells [⟨t, m⟩]) rfl rfl own5 hCN (hcells_one' _) (by omega) (by omega) ?_
                intro a7 c7 w7 own7 gr7 at7
                refine hK.out _ _ ⟨grown_cell gr7 hH.1 (fun e => by have := (owns_lt own5 _ e).1; omega), grown_cell gr7 hH.2.1 (fun e => by have := (owns_lt own5 _ e).1; omega), grown_cell gr7 hH.2.2.1 (fun e => by have := (owns_lt own5 _ e).1; omega), grown_cell gr7 hH.2.2.2.1 (fun e => by have := (owns_lt own5 _ e).1; omega), Nat.lt_of_lt_of_le hH.2.2.2.2.1 gr7.size, hH.2.2.2.2.2.grown gr7 hH.2.2.2.2.2.size (fun g hg => by have := (owns_lt own5 g hg).1; omega)⟩ (fun hH => ?_)
                clear hK K gr7 at7 own5 hCN
                simp only [Act.put, List.setIfInBounds_toArray, List.set_cons_zero, List.set_cons_succ]
                have hCd := hCb.below hH.2.2.2.2.2
                refine wpAnyH_ready (rs := [11]) (by kernel_rfl) (by simp) ?_
                refine AllReadyH.cons rfl (fun K hK => ?_) AllReadyH.nil
                refine step_appX Try.underlying52 Try.underlying52 gi0 gz0 gz1 gz2 rfl (by omega) (by omega) (.tmp 27) (.tmp 30) rfl rfl (w.heap.size + 1) (.slice a7 (k + 1) c7) (k + 1) _ (some ⟨g, k * 2, none⟩) (n - k) (c - k) ((hcells es).drop (k * 2)) rfl rfl own7 hCd H1b (by omega) (by omega) ?_
                intro a8 c8 w8 own8 gr8 at8
                refine hK.out _ _ ⟨grown_cell gr8 hH.1 (fun e => by have := (owns_lt own7 _ e).1; omega), grown_cell gr8 hH.2.1 (fun e => by have := (owns_lt own7 _ e).1; omega), grown_cell gr8 hH.2.2.1 (fun e => by have := (owns_lt own7 _ e).1; omega), grown_cell gr8 hH.2.2.2.1 (fun e => by have := (owns_lt own7 _ e).1; omega), Nat.lt_of_lt_of_le hH.2.2.2.2.1 gr8.size, hH.2.2.2.2.2.grown gr8 hH.2.2.2.2.2.size (fun g hg => by have := (owns_lt own7 g hg).1; omega)⟩ (fun hH => ?_)
                clear hK K gr8 at8 own7 hCd
                simp only [Act.put, List.setIfInBounds_toArray, List.set_cons_zero, List.set_cons_succ]
                refine hTake (i := 12) (v := ?_) rfl (by kernel_rfl) (by kernel_rfl) (by kernel_rfl) (by rfl) ?_ hH ?_
                rotate_left
                · intro W hW; (try dsimp only at hW); go_simp <;> with_reducible rfl
                simp only [Act.put, List.setIfInBounds_toArray, List.set_cons_zero, List.set_cons_succ]
                refine wpAnyH_done (by kernel_rfl) ?_ _
                refine NoPanic.normal ?_
                have en : k + 1 + (n - k) = n + 1 := by omega
                simp only [en] at own8 ⊢
                rw [← hcells_take, ← hcut_drop es k (by have := HL.out; omega), ← hcells_append, ← hcells_append] at own8
                rw [← HI.out] at own8
                obtain ⟨g8, rfl⟩ := own_at own8 (by omega)
                have O8 := hid (owns_base (base' := B) own8 (by omega))
                have k8 := hid hH.2.2.2.2.2
                clear own8 hH
                go_wp2
                exact bodyPost_ret (v := .slice (some ⟨g8, 0, none⟩) (n + 1) c8) (by simp [results, Try.results122, go_sem]) rfl ⟨g8, n + 1, c8, rfl, O8.out, by omega, k8.out⟩
          · have kN : Below (wq.alloc (.cells #[] 60)).heap.size (wq.alloc (.cells #[] 60)) ((wq.alloc (.cells #[] 60)).alloc (.cells #[.int .i64 t, .int .i64 m] 60)) := (Below.refl _ _).alloc (Nat.le_refl _) _
            have hCN := new_hold (wq.alloc (.cells #[] 60)) t m 60
            rw [show (wq.alloc (.cells #[] 60)).heap.size = wq.heap.size + 1 by simp] at hCN
            go_simp
            refine hK.out _ _ ⟨keep_cell kN hH.1, keep_cell kN hH.2.1, keep_cell kN hH.2.2.1, keep_cell kN hH.2.2.2.1, Nat.lt_of_lt_of_le hH.2.2.2.2.1 kN.size, hH.2.2.2.2.2.trans (kN.mono hH.2.2.2.2.2.size)⟩ (fun hH => ?_)
            clear hK K
            replace oE := owns_below oE kN
            clear kN
            refine wpAnyH_ready (rs := [4]) (by kernel_rfl) (by simp) ?_
            refine AllReadyH.cons rfl (fun K hK => ?_) AllReadyH.nil
            · have hCx := hCa.below hH.2.2.2.2.2
              refine step_appX Try.underlying52 Try.underlying52 gi0 gz0 gz1 gz2 rfl (by omega) (by omega) (.tmp 20) (.tmp 23) rfl rfl (w.heap.size + 1) (.slice (some ⟨wq.heap.size, 0, none⟩) 0 0) 0 [] (some ⟨g, 0, none⟩) k c ((hcells es).take (k * 2)) rfl rfl oE hCx H1a (by omega) (by omega) ?_
              intro a5 c5 w5 own5 gr5 at5
              simp only [Nat.zero_add, List.nil_append] at own5 at5 ⊢
              replace hCN := cells_grown hCN gr5 (fun b off ha e => by cases ha; simp [Value.ownBlock] at e)
              refine hK.out _ _ ⟨grown_cell gr5 hH.1 (fun e => by have := (owns_lt oE _ e).1; omega), grown_cell gr5 hH.2.1 (fun e => by have := (owns_lt oE _ e).1; omega), grown_cell gr5 hH.2.2.1 (fun e => by have := (owns_lt oE _ e).1; omega), grown_cell gr5 hH.2.2.2.1 (fun e => by have := (owns_lt oE _ e).1; omega), Nat.lt_of_lt_of_le hH.2.2.2.2.1 gr5.size, hH.2.2.2.2.2.grown gr5 hH.2.2.2.2.2.size (fun g hg => by have := (owns_lt oE g hg).1; omega)⟩ (fun hH => ?_)
              clear hK K gr5 at5 oE hCx
              simp only [Act.put, List.setIfInBounds_toArray, List.set_cons_zero, List.set_cons_succ]
              refine wpAnyH_ready (rs := [7]) (by kernel_rfl) (by simp) ?_
              refine AllReadyH.cons rfl (fun K hK => ?_) AllReadyH.nil
              · refine step_appX Try.underlying52 Try.underlying52 gi0 gz0 gz1 gz2 rfl (by omega) (by omega) (.tmp 24) (.tmp 26) rfl rfl (w.heap.size + 1) (.slice a5 k c5) k ((hcells es).take (k * 2)) _ 1 1 (hcells [⟨t, m⟩]) rfl rfl own5 hCN (hcells_one' _) (by omega) (by omega) ?_
                intro a7 c7 w7 own7 gr7 at7
                refine hK.out _ _ ⟨grown_cell gr7 hH.1 (fun e => by have := (owns_lt own5 _ e).1; omega), grown_cell gr7 hH.2.1 (fun e => by have := (owns_lt own5 _ e).1; omega), grown_cell gr7 hH.2.2.1 (fun e => by have := (owns_lt own5 _ e).1; omega), grown_cell gr7 hH.2.2.2.1 (fun e => by have := (owns_lt own5 _ e).1; omega), Nat.lt_of_lt_of_le hH.2.2.2.2.1 gr7.size, hH.2.2.2.2.2.grown gr7 hH.2.2.2.2.2.size (fun g hg => by have := (owns_lt own5 g hg).1; omega)⟩ (fun hH => ?_)
                clear hK K gr7 at7 own5 hCN
                simp only [Act.put, List.setIfInBounds_toArray, List.set_cons_zero, List.set_cons_succ]
                have hCd := hCb.below hH.2.2.2.2.2
                refine wpAnyH_ready (rs := [11]) (by kernel_rfl) (by simp) ?_
                refine AllReadyH.cons rfl (fun K hK => ?_) AllReadyH.nil
                refine step_appX Try.underlying52 Try.underlying52 gi0 gz0 gz1 gz2 rfl (by omega) (by omega) (.tmp 27) (.tmp 30) rfl rfl (w.heap.size + 1) (.slice a7 (k + 1) c7) (k + 1) _ (some ⟨g, k * 2, none⟩) (n - k) (c - k) ((hcells es).drop (k * 2)) rfl rfl own7 hCd H1b (by omega) (by omega) ?_
                intro a8 c8 w8 own8 gr8 at8
                refine hK.out _ _ ⟨grown_cell gr8 hH.1 (fun e => by have := (owns_lt own7 _ e).1; omega), grown_cell gr8 hH.2.1 (fun e => by have := (owns_lt own7 _ e).1; omega), grown_cell gr8 hH.2.2.1 (fun e => by have := (owns_lt own7 _ e).1; omega), grown_cell gr8 hH.2.2.2.1 (fun e => by have := (owns_lt own7 _ e).1; omega), Nat.lt_of_lt_of_le hH.2.2.2.2.1 gr8.size, hH.2.2.2.2.2.grown gr8 hH.2.2.2.2.2.size (fun g hg => by have := (owns_lt own7 g hg).1; omega)⟩ (fun hH => ?_)
                clear hK K gr8 at8 own7 hCd
                simp only [Act.put, List.setIfInBounds_toArray, List.set_cons_zero, List.set_cons_succ]
                refine hTake (i := 12) (v := ?_) rfl (by kernel_rfl) (by kernel_rfl) (by kernel_rfl) (by rfl) ?_ hH ?_
                rotate_left
                · intro W hW; (try dsimp only at hW); go_simp <;> with_reducible rfl
                simp only [Act.put, List.setIfInBounds_toArray, List.set_cons_zero, List.set_cons_succ]
                refine wpAnyH_done (by kernel_rfl) ?_ _
                refine NoPanic.normal ?_
                have en : k + 1 + (n - k) = n + 1 := by omega
                simp only [en] at own8 ⊢
                rw [← hcells_take, ← hcut_drop es k (by have := HL.out; omega), ← hcells_append, ← hcells_append] at own8
                rw [← HI.out] at own8
                obtain ⟨g8, rfl⟩ := own_at own8 (by omega)
                have O8 := hid (owns_base (base' := B) own8 (by omega))
                have k8 := hid hH.2.2.2.2.2
                clear own8 hH
                go_wp2
                exact bodyPost_ret (v := .slice (some ⟨g8, 0, none⟩) (n + 1) c8) (by simp [results, Try.results122, go_sem]) rfl ⟨g8, n + 1, c8, rfl, O8.out, by omega, k8.out⟩
        · have kN : Below wq.heap.size wq (wq.alloc (.cells #[.int .i64 t, .int .i64 m] 60)) := (Below.refl _ _).alloc (Nat.le_refl _) _
          have hCN := new_hold wq t m 60
          go_simp
          refine hK.out _ _ ⟨keep_cell kN hH.1, keep_cell kN hH.2.1, keep_cell kN hH.2.2.1, keep_cell kN hH.2.2.2.1, Nat.lt_of_lt_of_le hH.2.2.2.2.1 kN.size, hH.2.2.2.2.2.trans (kN.mono hH.2.2.2.2.2.size)⟩ (fun hH => ?_)
          clear hK K
          clear kN
          refine wpAnyH_ready (rs := [0]) (by kernel_rfl) (by simp) ?_
          refine AllReadyH.cons rfl (fun K hK => ?_) AllReadyH.nil
          · have oE := owns_base (base' := w.heap.size + 1) (new_empty (wq.alloc (.cells #[.int .i64 t, .int .i64 m] 60)) 60 2) (by have := hH.2.2.2.2.1; omega)
            have kE : Below (wq.alloc (.cells #[.int .i64 t, .int .i64 m] 60)).heap.size (wq.alloc (.cells #[.int .i64 t, .int .i64 m] 60)) ((wq.alloc (.cells #[.int .i64 t, .int .i64 m] 60)).alloc (.cells #[] 60)) := (Below.refl _ _).alloc (Nat.le_refl _) _
            rw [show (wq.alloc (.cells #[.int .i64 t, .int .i64 m] 60)).heap.size = wq.heap.size + 1 by simp] at oE
            go_simp
            refine hK.out _ _ ⟨keep_cell kE hH.1, keep_cell kE hH.2.1, keep_cell kE hH.2.2.1, keep_cell kE hH.2.2.2.1, Nat.lt_of_lt_of_le hH.2.2.2.2.1 kE.size, hH.2.2.2.2.2.trans (kE.mono hH.2.2.2.2.2.size)⟩ (fun hH => ?_)
            clear hK K
            replace hCN := hCN.below kE
            clear kE
            refine wpAnyH_ready (rs := [4]) (by kernel_rfl) (by simp) ?_
            refine AllReadyH.cons rfl (fun K hK => ?_) AllReadyH.nil
            · have hCx := hCa.below hH.2.2.2.2.2
              refine step_appX Try.underlying52 Try.underlying52 gi0 gz0 gz1 gz2 rfl (by omega) (by omega) (.tmp 20) (.tmp 23) rfl rfl (w.heap.size + 1) (.slice (some ⟨wq.heap.size + 1, 0, none⟩) 0 0) 0 [] (some ⟨g, 0, none⟩) k c ((hcells es).take (k * 2)) rfl rfl oE hCx H1a (by omega) (by omega) ?_
              intro a5 c5 w5 own5 gr5 at5
              simp only [Nat.zero_add, List.nil_append] at own5 at5 ⊢
              replace hCN := cells_grown hCN gr5 (fun b off ha e => by cases ha; simp [Value.ownBlock] at e)
              refine hK.out _ _ ⟨grown_cell gr5 hH.1 (fun e => by have := (owns_lt oE _ e).1; omega), grown_cell gr5 hH.2.1 (fun e => by have := (owns_lt oE _ e).1; omega), grown_cell gr5 hH.2.2.1 (fun e => by have := (owns_lt oE _ e).1; omega), grown_cell gr5 hH.2.2.2.1 (fun e => by have := (owns_lt oE _ e).1; omega), Nat.lt_of_lt_of_le hH.2.2.2.2.1 gr5.size, hH.2.2.2.2.2.grown gr5 hH.2.2.2.2.2.size (fun g hg => by have := (owns_lt oE g hg).1; omega)⟩ (fun hH => ?_)
              clear hK K gr5 at5 oE hCx
              simp only [Act.put, List.setIfInBounds_toArray, List.set_cons_zero, List.set_cons_succ]
              refine wpAnyH_ready (rs := [7]) (by kernel_rfl) (by simp) ?_
              refine AllReadyH.cons rfl (fun K hK => ?_) AllReadyH.nil
              · refine step_appX Try.underlying52 Try.underlying52 gi0 gz0 gz1 gz2 rfl (by omega) (by omega) (.tmp 24) (.tmp 26) rfl rfl (w.heap.size + 1) (.slice a5 k c5) k ((hcells es).take (k * 2)) _ 1 1 (hcells [⟨t, m⟩]) rfl rfl own5 hCN (hcells_one' _) (by omega) (by omega) ?_
                intro a7 c7 w7 own7 gr7 at7
                refine hK.out _ _ ⟨grown_cell gr7 hH.1 (fun e => by have := (owns_lt own5 _ e).1; omega), grown_cell gr7 hH.2.1 (fun e => by have := (owns_lt own5 _ e).1; omega), grown_cell gr7 hH.2.2.1 (fun e => by have := (owns_lt own5 _ e).1; omega), grown_cell gr7 hH.2.2.2.1 (fun e => by have := (owns_lt own5 _ e).1; omega), Nat.lt_of_lt_of_le hH.2.2.2.2.1 gr7.size, hH.2.2.2.2.2.grown gr7 hH.2.2.2.2.2.size (fun g hg => by have := (owns_lt own5 g hg).1; omega)⟩ (fun hH => ?_)
                clear hK K gr7 at7 own5 hCN
                simp only [Act.put, List.setIfInBounds_toArray, List.set_cons_zero, List.set_cons_succ]
                have hCd := hCb.below hH.2.2.2.2.2
                refine wpAnyH_ready (rs := [11]) (by kernel_rfl) (by simp) ?_
                refine AllReadyH.cons rfl (fun K hK => ?_) AllReadyH.nil
                refine step_appX Try.underlying52 Try.underlying52 gi0 gz0 gz1 gz2 rfl (by omega) (by omega) (.tmp 27) (.tmp 30) rfl rfl (w.heap.size + 1) (.slice a7 (k + 1) c7) (k + 1) _ (some ⟨g, k * 2, none⟩) (n - k) (c - k) ((hcells es).drop (k * 2)) rfl rfl own7 hCd H1b (by omega) (by omega) ?_
                intro a8 c8 w8 own8 gr8 at8
                refine hK.out _ _ ⟨grown_cell gr8 hH.1 (fun e => by have := (owns_lt own7 _ e).1; omega), grown_cell gr8 hH.2.1 (fun e => by have := (owns_lt own7 _ e).1; omega), grown_cell gr8 hH.2.2.1 (fun e => by have := (owns_lt own7 _ e).1; omega), grown_cell gr8 hH.2.2.2.1 (fun e => by have := (owns_lt own7 _ e).1; omega), Nat.lt_of_lt_of_le hH.2.2.2.2.1 gr8.size, hH.2.2.2.2.2.grown gr8 hH.2.2.2.2.2.size (fun g hg => by have := (owns_lt own7 g hg).1; omega)⟩ (fun hH => ?_)
                clear hK K gr8 at8 own7 hCd
                simp only [Act.put, List.setIfInBounds_toArray, List.set_cons_zero, List.set_cons_succ]
                refine hTake (i := 12) (v := ?_) rfl (by kernel_rfl) (by kernel_rfl) (by kernel_rfl) (by rfl) ?_ hH ?_
                rotate_left
                · intro W hW; (try dsimp only at hW); go_simp <;> with_reducible rfl
                simp only [Act.put, List.setIfInBounds_toArray, List.set_cons_zero, List.set_cons_succ]
                refine wpAnyH_done (by kernel_rfl) ?_ _
                refine NoPanic.normal ?_
                have en : k + 1 + (n - k) = n + 1 := by omega
                simp only [en] at own8 ⊢
                rw [← hcells_take, ← hcut_drop es k (by have := HL.out; omega), ← hcells_append, ← hcells_append] at own8
                rw [← HI.out] at own8
                obtain ⟨g8, rfl⟩ := own_at own8 (by omega)
                have O8 := hid (owns_base (base' := B) own8 (by omega))
                have k8 := hid hH.2.2.2.2.2
                clear own8 hH
                go_wp2
                exact bodyPost_ret (v := .slice (some ⟨g8, 0, none⟩) (n + 1) c8) (by simp [results, Try.results122, go_sem]) rfl ⟨g8, n + 1, c8, rfl, O8.out, by omega, k8.out⟩
    · obtain rfl : k = n := by omega
      have HI : Hid (Ch.insP es ⟨t, m⟩ = es.take k ++ [⟨t, m⟩] ++ es.drop k) := Ch.insP_at (l := es) (e := ⟨t, m⟩) (k := k) (by have := HL.out; omega) HA.out (fun h => by have := HL.out; omega)
      by_cases hck : c = k
      · subst hck
        go_wp2_with fail
        refine wp_region_noPanic ?_
        refine wp_region_held_drew (S := fun W' => W'.cell? ⟨w.heap.size, 0, none⟩ = some (.int .i64 t) ∧ W'.cell? ⟨w.heap.size, 1, none⟩ = some (.int .i64 m) ∧ w.heap.size < W'.heap.size ∧ Below w.heap.size w W') (by kernel_rfl) (⟨z0, z1, ll, hW.drew⟩) (fun hH => ?_)
        refine hTake (i := 0) (v := ?_) rfl (by kernel_rfl) (by kernel_rfl) (by kernel_rfl) (by rfl) ?_ hH ?_
        rotate_left
        · intro W hW; (try dsimp only at hW); go_simp <;> with_reducible rfl
        simp only [Act.put, List.setIfInBounds_toArray, List.set_cons_zero, List.set_cons_succ]
        refine hTake (i := 1) (v := ?_) rfl (by kernel_rfl) (by kernel_rfl) (by kernel_rfl) (by rfl) ?_ hH ?_
        rotate_left
        · intro W hW; (try dsimp only at hW); go_simp <;> with_reducible rfl
        simp only [Act.put, List.setIfInBounds_toArray, List.set_cons_zero, List.set_cons_succ]
        refine hTake (i := 2) (v := ?_) rfl (by kernel_rfl) (by kernel_rfl) (by kernel_rfl) (by rfl) ?_ hH ?_
        rotate_left
        · intro W hW; (try dsimp only at hW); go_simp <;> with_reducible rfl
        simp only [Act.put, List.setIfInBounds_toArray, List.set_cons_zero, List.set_cons_succ]
        refine hTake (i := 3) (v := ?_) rfl (by kernel_rfl) (by kernel_rfl) (by kernel_rfl) (by rfl) ?_ hH ?_
        rotate_left
        · intro W hW; (try dsimp only at hW); go_simp <;> with_reducible rfl
        simp only [Act.put, List.setIfInBounds_toArray, List.set_cons_zero, List.set_cons_succ]
        refine hTake (i := 4) (v := ?_) rfl (by kernel_rfl) (by kernel_rfl) (by kernel_rfl) (by rfl) ?_ hH ?_
        rotate_left
        · intro W hW; (try dsimp only at hW); go_simp <;> with_reducible rfl
        simp only [Act.put, List.setIfInBounds_toArray, List.set_cons_zero, List.set_cons_succ]
        refine hSkip (i := 5) rfl (by kernel_rfl) (by kernel_rfl) (by kernel_rfl) (by rfl) hH ?_
        simp only [Act.put, List.setIfInBounds_toArray, List.set_cons_zero, List.set_cons_succ]
        refine hSkip (i := 6) rfl (by kernel_rfl) (by kernel_rfl) (by kernel_rfl) (by rfl) hH ?_
        simp only [Act.put, List.setIfInBounds_toArray, List.set_cons_zero, List.set_cons_succ]
        refine hSkip (i := 7) rfl (by kernel_rfl) (by kernel_rfl) (by kernel_rfl) (by rfl) hH ?_
        simp only [Act.put, List.setIfInBounds_toArray, List.set_cons_zero, List.set_cons_succ]
        refine hSkip (i := 8) rfl (by kernel_rfl) (by kernel_rfl) (by kernel_rfl) (by rfl) hH ?_
        simp only [Act.put, List.setIfInBounds_toArray, List.set_cons_zero, List.set_cons_succ]
        refine hSkip (i := 9) rfl (by kernel_rfl) (by kernel_rfl) (by kernel_rfl) (by rfl) hH ?_
        simp only [Act.put, List.setIfInBounds_toArray, List.set_cons_zero, List.set_cons_succ]
        refine hSkip (i := 10) rfl (by kernel_rfl) (by kernel_rfl) (by kernel_rfl) (by rfl) hH ?_
        simp only [Act.put, List.setIfInBounds_toArray, List.set_cons_zero, List.set_cons_succ]
        refine hTake (i := 11) (v := ?_) rfl (by kernel_rfl) (by kernel_rfl) (by kernel_rfl) (by rfl) ?_ hH ?_
        rotate_left
        · intro W hW; (try dsimp only at hW); go_simp <;> with_reducible rfl
        simp only [Act.put, List.setIfInBounds_toArray, List.set_cons_zero, List.set_cons_succ]
        refine wpAnyH_done (by kernel_rfl) ?_ _
        refine NoPanic.normal ?_
        clear z0 z1 hW ll
        go_wp2_with fail
        generalize wr.drew = wp at *
        have hkc : c ≤ c := by omega

        have H1a : ∀ u ∈ (hcells es).take (c * 2), u.oneCell' = true := fun u hu => hcells_one' es u (List.mem_of_mem_take hu)
        have H1b : ∀ u ∈ (hcells es).drop (c * 2), u.oneCell' = true := fun u hu => hcells_one' es u (List.mem_of_mem_drop hu)
        have hCa := cut_take h4 (k := c * 2) (by omega)
        have hCb : CellsAt w (some ⟨g, 0, none⟩) (0 * 2) ((hcells es).drop (c * 2)) := ⟨by rw [List.length_drop, h4.1]; omega, fun h => by omega⟩
        refine wp_region_noPanic ?_
        refine wp_region_held_drew (S := fun W' => W'.cell? ⟨w.heap.size, 0, none⟩ = some (.int .i64 t) ∧ W'.cell? ⟨w.heap.size, 1, none⟩ = some (.int .i64 m) ∧ w.heap.size < W'.heap.size ∧ Below w.heap.size w W') (by kernel_rfl) (⟨hH.1, hH.2.1, hH.2.2.1, hH.2.2.2.drew⟩) (fun hH => ?_)
        generalize wp.drew = wq at *
        refine hTake (i := 1) (v := ?_) rfl (by kernel_rfl) (by kernel_rfl) (by kernel_rfl) (by rfl) ?_ hH ?_
        rotate_left
        · intro W hW; (try dsimp only at hW); go_simp <;> with_reducible rfl
        simp only [Act.put, List.setIfInBounds_toArray, List.set_cons_zero, List.set_cons_succ]
        refine hTake (i := 2) (v := ?_) rfl (by kernel_rfl) (by kernel_rfl) (by kernel_rfl) (by rfl) ?_ hH ?_
        rotate_left
        · intro W hW; (try dsimp only at hW); go_simp <;> with_reducible rfl
        simp only [Act.put, List.setIfInBounds_toArray, List.set_cons_zero, List.set_cons_succ]
        refine hTake (i := 3) (v := ?_) rfl (by kernel_rfl) (by kernel_rfl) (by kernel_rfl) (by rfl) ?_ hH ?_
        rotate_left
        · intro W hW; (try dsimp only at hW); go_simp <;> with_reducible rfl
        simp only [Act.put, List.setIfInBounds_toArray, List.set_cons_zero, List.set_cons_succ]
        refine hTake (i := 5) (v := ?_) rfl (by kernel_rfl) (by kernel_rfl) (by kernel_rfl) (by rfl) ?_ hH ?_
        rotate_left
        · intro W hW; (try dsimp only at hW); go_simp <;> with_reducible rfl
        simp only [Act.put, List.setIfInBounds_toArray, List.set_cons_zero, List.set_cons_succ]
        refine hTake (i := 8) (v := ?_) rfl (by kernel_rfl) (by kernel_rfl) (by kernel_rfl) (by rfl) ?_ hH ?_
        rotate_left
        · intro W hW; (try dsimp only at hW); go_simp <;> with_reducible rfl
        simp only [Act.put, List.setIfInBounds_toArray, List.set_cons_zero, List.set_cons_succ]
        refine hTake (i := 9) (v := ?_) rfl (by kernel_rfl) (by kernel_rfl) (by kernel_rfl) (by rfl) ?_ hH ?_
        rotate_left
        · intro W hW; (try dsimp only at hW); go_simp <;> with_reducible rfl
        simp only [Act.put, List.setIfInBounds_toArray, List.set_cons_zero, List.set_cons_succ]
        refine hTake (i := 10) (v := ?_) rfl (by kernel_rfl) (by kernel_rfl) (by kernel_rfl) (by rfl) ?_ hH ?_
        rotate_left
        · intro W hW; (try dsimp only at hW); go_simp <;> with_reducible rfl
        simp only [Act.put, List.setIfInBounds_toArray, List.set_cons_zero, List.set_cons_succ]
        refine wpAnyH_ready (rs := [0, 6]) (by kernel_rfl) (by simp) ?_
        refine AllReadyH.cons rfl (fun K hK => ?_) (AllReadyH.cons rfl (fun K hK => ?_) AllReadyH.nil)
        · have oE := owns_base (base' := w.heap.size + 1) (new_empty wq 60 2) (by have := hH.2.2.1; omega)
          have kE : Below wq.heap.size wq (wq.alloc (.cells #[] 60)) := (Below.refl _ _).alloc (Nat.le_refl _) _
          go_simp
          refine hK.out _ _ ⟨keep_cell kE hH.1, keep_cell kE hH.2.1, Nat.lt_of_lt_of_le hH.2.2.1 kE.size, hH.2.2.2.trans (kE.mono hH.2.2.2.size)⟩ (fun hH => ?_)
          clear hK K
          clear kE
          refine wpAnyH_ready (rs := [4, 6]) (by kernel_rfl) (by simp) ?_
          refine AllReadyH.cons rfl (fun K hK => ?_) (AllReadyH.cons rfl (fun K hK => ?_) AllReadyH.nil)
          · have hCx := hCa.below hH.2.2.2
            refine step_appX Try.underlying52 Try.underlying52 gi0 gz0 gz1 gz2 rfl (by omega) (by omega) (.tmp 20) (.tmp 23) rfl rfl (w.heap.size + 1) (.slice (some ⟨wq.heap.size, 0, none⟩) 0 0) 0 [] (some ⟨g, 0, none⟩) c c ((hcells es).take (c * 2)) rfl rfl oE hCx H1a (by omega) (by omega) ?_
            intro a5 c5 w5 own5 gr5 at5
            simp only [Nat.zero_add, List.nil_append] at own5 at5 ⊢
            refine hK.out _ _ ⟨grown_cell gr5 hH.1 (fun e => by have := (owns_lt oE _ e).1; omega), grown_cell gr5 hH.2.1 (fun e => by have := (owns_lt oE _ e).1; omega), Nat.lt_of_lt_of_le hH.2.2.1 gr5.size, hH.2.2.2.grown gr5 hH.2.2.2.size (fun g hg => by have := (owns_lt oE g hg).1; omega)⟩ (fun hH => ?_)
            clear hK K gr5 at5 oE hCx
            simp only [Act.put, List.setIfInBounds_toArray, List.set_cons_zero, List.set_cons_succ]
            refine wpAnyH_ready (rs := [6]) (by kernel_rfl) (by simp) ?_
            refine AllReadyH.cons rfl (fun K hK => ?_) AllReadyH.nil
            · have kN : Below w5.heap.size w5 (w5.alloc (.cells #[.int .i64 t, .int .i64 m] 60)) := (Below.refl _ _).alloc (Nat.le_refl _) _
              have hCN := new_hold w5 t m 60
              go_simp
              refine hK.out _ _ ⟨keep_cell kN hH.1, keep_cell kN hH.2.1, Nat.lt_of_lt_of_le hH.2.2.1 kN.size, hH.2.2.2.trans (kN.mono hH.2.2.2.size)⟩ (fun hH => ?_)
              clear hK K
              replace own5 := owns_below own5 kN
              clear kN
              refine wpAnyH_ready (rs := [7]) (by kernel_rfl) (by simp) ?_
              refine AllReadyH.cons rfl (fun K hK => ?_) AllReadyH.nil
              · refine step_appX Try.underlying52 Try.underlying52 gi0 gz0 gz1 gz2 rfl (by omega) (by omega) (.tmp 24) (.tmp 26) rfl rfl (w.heap.size + 1) (.slice a5 c c5) c ((hcells es).take (c * 2)) _ 1 1 (hcells [⟨t, m⟩]) rfl rfl own5 hCN (hcells_one' _) (by omega) (by omega) ?_
                intro a7 c7 w7 own7 gr7 at7
                refine hK.out _ _ ⟨grown_cell gr7 hH.1 (fun e => by have := (owns_lt own5 _ e).1; omega), grown_cell gr7 hH.2.1 (fun e => by have := (owns_lt own5 _ e).1; omega), Nat.lt_of_lt_of_le hH.2.2.1 gr7.size, hH.2.2.2.grown gr7 hH.2.2.2.size (fun g hg => by have := (owns_lt own5 g hg).1; omega)⟩ (fun hH => ?_)
                clear hK K gr7 at7 own5 hCN
                simp only [Act.put, List.setIfInBounds_toArray, List.set_cons_zero, List.set_cons_succ]
                have hCd := hCb.below hH.2.2.2
                refine wpAnyH_ready (rs := [11]) (by kernel_rfl) (by simp) ?_
                refine AllReadyH.cons rfl (fun K hK => ?_) AllReadyH.nil
                refine step_appX Try.underlying52 Try.underlying52 gi0 gz0 gz1 gz2 rfl (by omega) (by omega) (.tmp 27) (.tmp 30) rfl rfl (w.heap.size + 1) (.slice a7 (c + 1) c7) (c + 1) _ (some ⟨g, 0, none⟩) 0 0 ((hcells es).drop (c * 2)) rfl rfl own7 hCd H1b (by omega) (by omega) ?_
                intro a8 c8 w8 own8 gr8 at8
                refine hK.out _ _ ⟨grown_cell gr8 hH.1 (fun e => by have := (owns_lt own7 _ e).1; omega), grown_cell gr8 hH.2.1 (fun e => by have := (owns_lt own7 _ e).1; omega), Nat.lt_of_lt_of_le hH.2.2.1 gr8.size, hH.2.2.2.grown gr8 hH.2.2.2.size (fun g hg => by have := (owns_lt own7 g hg).1; omega)⟩ (fun hH => ?_)
                clear hK K gr8 at8 own7 hCd
                simp only [Act.put, List.setIfInBounds_toArray, List.set_cons_zero, List.set_cons_succ]
                refine hTake (i := 12) (v := ?_) rfl (by kernel_rfl) (by kernel_rfl) (by kernel_rfl) (by rfl) ?_ hH ?_
                rotate_left
                · intro W hW; (try dsimp only at hW); go_simp <;> with_reducible rfl
                simp only [Act.put, List.setIfInBounds_toArray, List.set_cons_zero, List.set_cons_succ]
                refine wpAnyH_done (by kernel_rfl) ?_ _
                refine NoPanic.normal ?_
                have en : c + 1 + 0 = c + 1 := by omega
                simp only [en] at own8 ⊢
                rw [← hcells_take, ← hcut_drop es c (by have := HL.out; omega), ← hcells_append, ← hcells_append] at own8
                rw [← HI.out] at own8
                obtain ⟨g8, rfl⟩ := own_at own8 (by omega)
                have O8 := hid (owns_base (base' := B) own8 (by omega))
                have k8 := hid hH.2.2.2
                clear own8 hH
                go_wp2
                exact bodyPost_ret (v := .slice (some ⟨g8, 0, none⟩) (c + 1) c8) (by simp [results, Try.results122, go_sem]) rfl ⟨g8, c + 1, c8, rfl, O8.out, by omega, k8.out⟩
          · have kN : Below (wq.alloc (.cells #[] 60)).heap.size (wq.alloc (.cells #[] 60)) ((wq.alloc (.cells #[] 60)).alloc (.cells #[.int .i64 t, .int .i64 m] 60)) := (Below.refl _ _).alloc (Nat.le_refl _) _
            have hCN := new_hold (wq.alloc (.cells #[] 60)) t m 60
            rw [show (wq.alloc (.cells #[] 60)).heap.size = wq.heap.size + 1 by simp] at hCN
            go_simp
            refine hK.out _ _ ⟨keep_cell kN hH.1, keep_cell kN hH.2.1, Nat.lt_of_lt_of_le hH.2.2.1 kN.size, hH.2.2.2.trans (kN.mono hH.2.2.2.size)⟩ (fun hH => ?_)
            clear hK K
            replace oE := owns_below oE kN
            clear kN
            refine wpAnyH_ready (rs := [4]) (by kernel_rfl) (by simp) ?_
            refine AllReadyH.cons rfl (fun K hK => ?_) AllReadyH.nil
            · have hCx := hCa.below hH.2.2.2
              refine step_appX Try.underlying52 Try.underlying52 gi0 gz0 gz1 gz2 rfl (by omega) (by omega) (.tmp 20) (.tmp 23) rfl rfl (w.heap.size + 1) (.slice (some ⟨wq.heap.size, 0, none⟩) 0 0) 0 [] (some ⟨g, 0, none⟩) c c ((hcells es).take (c * 2)) rfl rfl oE hCx H1a (by omega) (by omega) ?_
              intro a5 c5 w5 own5 gr5 at5
              simp only [Nat.zero_add, List.nil_append] at own5 at5 ⊢
              replace hCN := cells_grown hCN gr5 (fun b off ha e => by cases ha; simp [Value.ownBlock] at e)
              refine hK.out _ _ ⟨grown_cell gr5 hH.1 (fun e => by have := (owns_lt oE _ e).1; omega), grown_cell gr5 hH.2.1 (fun e => by have := (owns_lt oE _ e).1; omega), Nat.lt_of_lt_of_le hH.2.2.1 gr5.size, hH.2.2.2.grown gr5 hH.2.2.2.size (fun g hg => by have := (owns_lt oE g hg).1; omega)⟩ (fun hH => ?_)
              clear hK K gr5 at5 oE hCx
              simp only [Act.put, List.setIfInBounds_toArray, List.set_cons_zero, List.set_cons_succ]
              refine wpAnyH_ready (rs := [7]) (by kernel_rfl) (by simp) ?_
              refine AllReadyH.cons rfl (fun K hK => ?_) AllReadyH.nil
              · refine step_appX Try.underlying52 Try.underlying52 gi0 gz0 gz1 gz2 rfl (by omega) (by omega) (.tmp 24) (.tmp 26) rfl rfl (w.heap.size + 1) (.slice a5 c c5) c ((hcells es).take (c * 2)) _ 1 1 (hcells [⟨t, m⟩]) rfl rfl own5 hCN (hcells_one' _) (by omega) (by omega) ?_
                intro a7 c7 w7 own7 gr7 at7
                refine hK.out _ _ ⟨grown_cell gr7 hH.1 (fun e => by have := (owns_lt own5 _ e).1; omega), grown_cell gr7 hH.2.1 (fun e => by have := (owns_lt own5 _ e).1; omega), Nat.lt_of_lt_of_le hH.2.2.1 gr7.size, hH.2.2.2.grown gr7 hH.2.2.2.size (fun g hg => by have := (owns_lt own5 g hg).1; omega)⟩ (fun hH => ?_)
                clear hK K gr7 at7 own5 hCN
                simp only [Act.put, List.setIfInBounds_toArray, List.set_cons_zero, List.set_cons_succ]
                have hCd := hCb.below hH.2.2.2
                refine wpAnyH_ready (rs := [11]) (by kernel_rfl) (by simp) ?_
                refine AllReadyH.cons rfl (fun K hK => ?_) AllReadyH.nil
                refine step_appX Try.underlying52 Try.underlying52 gi0 gz0 gz1 gz2 rfl (by omega) (by omega) (.tmp 27) (.tmp 30) rfl rfl (w.heap.size + 1) (.slice a7 (c + 1) c7) (c + 1) _ (some ⟨g, 0, none⟩) 0 0 ((hcells es).drop (c * 2)) rfl rfl own7 hCd H1b (by omega) (by omega) ?_
                intro a8 c8 w8 own8 gr8 at8
                refine hK.out _ _ ⟨grown_cell gr8 hH.1 (fun e => by have := (owns_lt own7 _ e).1; omega), grown_cell gr8 hH.2.1 (fun e => by have := (owns_lt own7 _ e).1; omega), Nat.lt_of_lt_of_le hH.2.2.1 gr8.size, hH.2.2.2.grown gr8 hH.2.2.2.size (fun g hg => by have := (owns_lt own7 g hg).1; omega)⟩ (fun hH => ?_)
                clear hK K gr8 at8 own7 hCd
                simp only [Act.put, List.setIfInBounds_toArray, List.set_cons_zero, List.set_cons_succ]
                refine hTake (i := 12) (v := ?_) rfl (by kernel_rfl) (by kernel_rfl) (by kernel_rfl) (by rfl) ?_ hH ?_
                rotate_left
                · intro W hW; (try dsimp only at hW); go_simp <;> with_reducible rfl
                simp only [Act.put, List.setIfInBounds_toArray, List.set_cons_zero, List.set_cons_succ]
                refine wpAnyH_done (by kernel_rfl) ?_ _
                refine NoPanic.normal ?_
                have en : c + 1 + 0 = c + 1 := by omega
                simp only [en] at own8 ⊢
                rw [← hcells_take, ← hcut_drop es c (by have := HL.out; omega), ← hcells_append, ← hcells_append] at own8
                rw [← HI.out] at own8
                obtain ⟨g8, rfl⟩ := own_at own8 (by omega)
                have O8 := hid (owns_base (base' := B) own8 (by omega))
                have k8 := hid hH.2.2.2
                clear own8 hH
                go_wp2
                exact bodyPost_ret (v := .slice (some ⟨g8, 0, none⟩) (c + 1) c8) (by simp [results, Try.results122, go_sem]) rfl ⟨g8, c + 1, c8, rfl, O8.out, by omega, k8.out⟩
        · have kN : Below wq.heap.size wq (wq.alloc (.cells #[.int .i64 t, .int .i64 m] 60)) := (Below.refl _ _).alloc (Nat.le_refl _) _
          have hCN := new_hold wq t m 60
          go_simp
          refine hK.out _ _ ⟨keep_cell kN hH.1, keep_cell kN hH.2.1, Nat.lt_of_lt_of_le hH.2.2.1 kN.size, hH.2.2.2.trans (kN.mono hH.2.2.2.size)⟩ (fun hH => ?_)
          clear hK K
          clear kN
          refine wpAnyH_ready (rs := [0]) (by kernel_rfl) (by simp) ?_
          refine AllReadyH.cons rfl (fun K hK => ?_) AllReadyH.nil
          · have oE := owns_base (base' := w.heap.size + 1) (new_empty (wq.alloc (.cells #[.int .i64 t, .int .i64 m] 60)) 60 2) (by have := hH.2.2.1; omega)
            have kE : Below (wq.alloc (.cells #[.int .i64 t, .int .i64 m] 60)).heap.size (wq.alloc (.cells #[.int .i64 t, .int .i64 m] 60)) ((wq.alloc (.cells #[.int .i64 t, .int .i64 m] 60)).alloc (.cells #[] 60)) := (Below.refl _ _).alloc (Nat.le_refl _) _
            rw [show (wq.alloc (.cells #[.int .i64 t, .int .i64 m] 60)).heap.size = wq.heap.size + 1 by simp] at oE
            go_simp
            refine hK.out _ _ ⟨keep_cell kE hH.1, keep_cell kE hH.2.1, Nat.lt_of_lt_of_le hH.2.2.1 kE.size, hH.2.2.2.trans (kE.mono hH.2.2.2.size)⟩ (fun hH => ?_)
            clear hK K
            replace hCN := hCN.below kE
            clear kE
            refine wpAnyH_ready (rs := [4]) (by kernel_rfl) (by simp) ?_
            refine AllReadyH.cons rfl (fun K hK => ?_) AllReadyH.nil
            · have hCx := hCa.below hH.2.2.2
              refine step_appX Try.underlying52 Try.underlying52 gi0 gz0 gz1 gz2 rfl (by omega) (by omega) (.tmp 20) (.tmp 23) rfl rfl (w.heap.size + 1) (.slice (some ⟨wq.heap.size + 1, 0, none⟩) 0 0) 0 [] (some ⟨g, 0, none⟩) c c ((hcells es).take (c * 2)) rfl rfl oE hCx H1a (by omega) (by omega) ?_
              intro a5 c5 w5 own5 gr5 at5
              simp only [Nat.zero_add, List.nil_append] at own5 at5 ⊢
              replace hCN := cells_grown hCN gr5 (fun b off ha e => by cases ha; simp [Value.ownBlock] at e)
              refine hK.out _ _ ⟨grown_cell gr5 hH.1 (fun e => by have := (owns_lt oE _ e).1; omega), grown_cell gr5 hH.2.1 (fun e => by have := (owns_lt oE _ e).1; omega), Nat.lt_of_lt_of_le hH.2.2.1 gr5.size, hH.2.2.2.grown gr5 hH.2.2.2.size (fun g hg => by have := (owns_lt oE g hg).1; omega)⟩ (fun hH => ?_)
              clear hK K gr5 at5 oE hCx
              simp only [Act.put, List.setIfInBounds_toArray, List.set_cons_zero, List.set_cons_succ]
              refine wpAnyH_ready (rs := [7]) (by kernel_rfl) (by simp) ?_
              refine AllReadyH.cons rfl (fun K hK => ?_) AllReadyH.nil
              · refine step_appX Try.underlying52 Try.underlying52 gi0 gz0 gz1 gz2 rfl (by omega) (by omega) (.tmp 24) (.tmp 26) rfl rfl (w.heap.size + 1) (.slice a5 c c5) c ((hcells es).take (c * 2)) _ 1 1 (hcells [⟨t, m⟩]) rfl rfl own5 hCN (hcells_one' _) (by omega) (by omega) ?_
                intro a7 c7 w7 own7 gr7 at7
                refine hK.out _ _ ⟨grown_cell gr7 hH.1 (fun e => by have := (owns_lt own5 _ e).1; omega), grown_cell gr7 hH.2.1 (fun e => by have := (owns_lt own5 _ e).1; omega), Nat.lt_of_lt_of_le hH.2.2.1 gr7.size, hH.2.2.2.grown gr7 hH.2.2.2.size (fun g hg => by have := (owns_lt own5 g hg).1; omega)⟩ (fun hH => ?_)
                clear hK K gr7 at7 own5 hCN
                simp only [Act.put, List.setIfInBounds_toArray, List.set_cons_zero, List.set_cons_succ]
                have hCd := hCb.below hH.2.2.2
                refine wpAnyH_ready (rs := [11]) (by kernel_rfl) (by simp) ?_
                refine AllReadyH.cons rfl (fun K hK => ?_) AllReadyH.nil
                refine step_appX Try.underlying52 Try.underlying52 gi0 gz0 gz1 gz2 rfl (by omega) (by omega) (.tmp 27) (.tmp 30) rfl rfl (w.heap.size + 1) (.slice a7 (c + 1) c7) (c + 1) _ (some ⟨g, 0, none⟩) 0 0 ((hcells es).drop (c * 2)) rfl rfl own7 hCd H1b (by omega) (by omega) ?_
                intro a8 c8 w8 own8 gr8 at8
                refine hK.out _ _ ⟨grown_cell gr8 hH.1 (fun e => by have := (owns_lt own7 _ e).1; omega), grown_cell gr8 hH.2.1 (fun e => by have := (owns_lt own7 _ e).1; omega), Nat.lt_of_lt_of_le hH.2.2.1 gr8.size, hH.2.2.2.grown gr8 hH.2.2.2.size (fun g hg => by have := (owns_lt own7 g hg).1; omega)⟩ (fun hH => ?_)
                clear hK K gr8 at8 own7 hCd
                simp only [Act.put, List.setIfInBounds_toArray, List.set_cons_zero, List.set_cons_succ]
                refine hTake (i := 12) (v := ?_) rfl (by kernel_rfl) (by kernel_rfl) (by kernel_rfl) (by rfl) ?_ hH ?_
                rotate_left
                · intro W hW; (try dsimp only at hW); go_simp <;> with_reducible rfl
                simp only [Act.put, List.setIfInBounds_toArray, List.set_cons_zero, List.set_cons_succ]
                refine wpAnyH_done (by kernel_rfl) ?_ _
                refine NoPanic.normal ?_
                have en : c + 1 + 0 = c + 1 := by omega
                simp only [en] at own8 ⊢
                rw [← hcells_take, ← hcut_drop es c (by have := HL.out; omega), ← hcells_append, ← hcells_append] at own8
                rw [← HI.out] at own8
                obtain ⟨g8, rfl⟩ := own_at own8 (by omega)
                have O8 := hid (owns_base (base' := B) own8 (by omega))
                have k8 := hid hH.2.2.2
                clear own8 hH
                go_wp2
                exact bodyPost_ret (v := .slice (some ⟨g8, 0, none⟩) (c + 1) c8) (by simp [results, Try.results122, go_sem]) rfl ⟨g8, c + 1, c8, rfl, O8.out, by omega, k8.out⟩
      · go_wp2_with fail
        refine wp_region_noPanic ?_
        refine wp_region_held_drew (S := fun W' => W'.cell? ⟨w.heap.size, 0, none⟩ = some (.int .i64 t) ∧ W'.cell? ⟨w.heap.size, 1, none⟩ = some (.int .i64 m) ∧ w.heap.size < W'.heap.size ∧ Below w.heap.size w W') (by kernel_rfl) (⟨z0, z1, ll, hW.drew⟩) (fun hH => ?_)
        refine hTake (i := 0) (v := ?_) rfl (by kernel_rfl) (by kernel_rfl) (by kernel_rfl) (by rfl) ?_ hH ?_
        rotate_left
        · intro W hW; (try dsimp only at hW); go_simp <;> with_reducible rfl
        simp only [Act.put, List.setIfInBounds_toArray, List.set_cons_zero, List.set_cons_succ]
        refine hTake (i := 1) (v := ?_) rfl (by kernel_rfl) (by kernel_rfl) (by kernel_rfl) (by rfl) ?_ hH ?_
        rotate_left
        · intro W hW; (try dsimp only at hW); go_simp <;> with_reducible rfl
        simp only [Act.put, List.setIfInBounds_toArray, List.set_cons_zero, List.set_cons_succ]
        refine hTake (i := 2) (v := ?_) rfl (by kernel_rfl) (by kernel_rfl) (by kernel_rfl) (by rfl) ?_ hH ?_
        rotate_left
        · intro W hW; (try dsimp only at hW); go_simp <;> with_reducible rfl
        simp only [Act.put, List.setIfInBounds_toArray, List.set_cons_zero, List.set_cons_succ]
        refine hTake (i := 3) (v := ?_) rfl (by kernel_rfl) (by kernel_rfl) (by kernel_rfl) (by rfl) ?_ hH ?_
        rotate_left
        · intro W hW; (try dsimp only at hW); go_simp <;> with_reducible rfl
        simp only [Act.put, List.setIfInBounds_toArray, List.set_cons_zero, List.set_cons_succ]
        refine hTake (i := 4) (v := ?_) rfl (by kernel_rfl) (by kernel_rfl) (by kernel_rfl) (by rfl) ?_ hH ?_
        rotate_left
        · intro W hW; (try dsimp only at hW); go_simp <;> with_reducible rfl
        simp only [Act.put, List.setIfInBounds_toArray, List.set_cons_zero, List.set_cons_succ]
        refine hSkip (i := 5) rfl (by kernel_rfl) (by kernel_rfl) (by kernel_rfl) (by rfl) hH ?_
        simp only [Act.put, List.setIfInBounds_toArray, List.set_cons_zero, List.set_cons_succ]
        refine hSkip (i := 6) rfl (by kernel_rfl) (by kernel_rfl) (by kernel_rfl) (by rfl) hH ?_
        simp only [Act.put, List.setIfInBounds_toArray, List.set_cons_zero, List.set_cons_succ]
        refine hSkip (i := 7) rfl (by kernel_rfl) (by kernel_rfl) (by kernel_rfl) (by rfl) hH ?_
        simp only [Act.put, List.setIfInBounds_toArray, List.set_cons_zero, List.set_cons_succ]
        refine hSkip (i := 8) rfl (by kernel_rfl) (by kernel_rfl) (by kernel_rfl) (by rfl) hH ?_
        simp only [Act.put, List.setIfInBounds_toArray, List.set_cons_zero, List.set_cons_succ]
        refine hSkip (i := 9) rfl (by kernel_rfl) (by kernel_rfl) (by kernel_rfl) (by rfl) hH ?_
        simp only [Act.put, List.setIfInBounds_toArray, List.set_cons_zero, List.set_cons_succ]
        refine hSkip (i := 10) rfl (by kernel_rfl) (by kernel_rfl) (by kernel_rfl) (by rfl) hH ?_
        simp only [Act.put, List.setIfInBounds_toArray, List.set_cons_zero, List.set_cons_succ]
        refine hTake (i := 11) (v := ?_) rfl (by kernel_rfl) (by kernel_rfl) (by kernel_rfl) (by rfl) ?_ hH ?_
        rotate_left
        · intro W hW; (try dsimp only at hW); go_simp <;> with_reducible rfl
        simp only [Act.put, List.setIfInBounds_toArray, List.set_cons_zero, List.set_cons_succ]
        refine wpAnyH_done (by kernel_rfl) ?_ _
        refine NoPanic.normal ?_
        clear z0 z1 hW ll
        go_wp2_with fail
        generalize wr.drew = wp at *
        have hkc : k ≤ c := by omega
        have hck2 : ¬ c = k := by omega
        have H1a : ∀ u ∈ (hcells es).take (k * 2), u.oneCell' = true := fun u hu => hcells_one' es u (List.mem_of_mem_take hu)
        have H1b : ∀ u ∈ (hcells es).drop (k * 2), u.oneCell' = true := fun u hu => hcells_one' es u (List.mem_of_mem_drop hu)
        have hCa := cut_take h4 (k := k * 2) (by omega)
        have hCb : CellsAt w (some ⟨g, k * 2, none⟩) (0 * 2) ((hcells es).drop (k * 2)) := by have := cut_drop h4 (k := k * 2) (by omega); rw [Nat.zero_add, Nat.sub_self] at this; simpa using this
        refine wp_region_noPanic ?_
        refine wp_region_held_drew (S := fun W' => W'.cell? ⟨w.heap.size, 0, none⟩ = some (.int .i64 t) ∧ W'.cell? ⟨w.heap.size, 1, none⟩ = some (.int .i64 m) ∧ w.heap.size < W'.heap.size ∧ Below w.heap.size w W') (by kernel_rfl) (⟨hH.1, hH.2.1, hH.2.2.1, hH.2.2.2.drew⟩) (fun hH => ?_)
        generalize wp.drew = wq at *
        refine hTake (i := 1) (v := ?_) rfl (by kernel_rfl) (by kernel_rfl) (by kernel_rfl) (by rfl) ?_ hH ?_
        rotate_left
        · intro W hW; (try dsimp only at hW); go_simp <;> with_reducible rfl
        simp only [Act.put, List.setIfInBounds_toArray, List.set_cons_zero, List.set_cons_succ]
        refine hTake (i := 2) (v := ?_) rfl (by kernel_rfl) (by kernel_rfl) (by kernel_rfl) (by rfl) ?_ hH ?_
        rotate_left
        · intro W hW; (try dsimp only at hW); go_simp <;> with_reducible rfl
        simp only [Act.put, List.setIfInBounds_toArray, List.set_cons_zero, List.set_cons_succ]
        refine hTake (i := 3) (v := ?_) rfl (by kernel_rfl) (by kernel_rfl) (by kernel_rfl) (by rfl) ?_ hH ?_
        rotate_left
        · intro W hW; (try dsimp only at hW); go_simp <;> with_reducible rfl
        simp only [Act.put, List.setIfInBounds_toArray, List.set_cons_zero, List.set_cons_succ]
        refine hTake (i := 5) (v := ?_) rfl (by kernel_rfl) (by kernel_rfl) (by kernel_rfl) (by rfl) ?_ hH ?_
        rotate_left
        · intro W hW; (try dsimp only at hW); go_simp <;> with_reducible rfl
        simp only [Act.put, List.setIfInBounds_toArray, List.set_cons_zero, List.set_cons_succ]
        refine hTake (i := 8) (v := ?_) rfl (by kernel_rfl) (by kernel_rfl) (by kernel_rfl) (by rfl) ?_ hH ?_
        rotate_left
        · intro W hW; (try dsimp only at hW); go_simp <;> with_reducible rfl
        simp only [Act.put, List.setIfInBounds_toArray, List.set_cons_zero, List.set_cons_succ]
        refine hTake (i := 9) (v := ?_) rfl (by kernel_rfl) (by kernel_rfl) (by kernel_rfl) (by rfl) ?_ hH ?_
        rotate_left
        · intro W hW; (try dsimp only at hW); go_simp <;> with_reducible rfl
        simp only [Act.put, List.setIfInBounds_toArray, List.set_cons_zero, List.set_cons_succ]
        refine hTake (i := 10) (v := ?_) rfl (by kernel_rfl) (by kernel_rfl) (by kernel_rfl) (by rfl) ?_ hH ?_
        rotate_left
        · intro W hW; (try dsimp only at hW); go_simp <;> with_reducible rfl
        simp only [Act.put, List.setIfInBounds_toArray, List.set_cons_zero, List.set_cons_succ]
        refine wpAnyH_ready (rs := [0, 6]) (by kernel_rfl) (by simp) ?_
        refine AllReadyH.cons rfl (fun K hK => ?_) (AllReadyH.cons rfl (fun K hK => ?_) AllReadyH.nil)
        · have oE := owns_base (base' := w.heap.size + 1) (new_empty wq 60 2) (by have := hH.2.2.1; omega)
          have kE : Below wq.heap.size wq (wq.alloc (.cells #[] 60)) := (Below.refl _ _).alloc (Nat.le_refl _) _
          go_simp
          refine hK.out _ _ ⟨keep_cell kE hH.1, keep_cell kE hH.2.1, Nat.lt_of_lt_of_le hH.2.2.1 kE.size, hH.2.2.2.trans (kE.mono hH.2.2.2.size)⟩ (fun hH => ?_)
          clear hK K
          clear kE
          refine wpAnyH_ready (rs := [4, 6]) (by kernel_rfl) (by simp) ?_
          refine AllReadyH.cons rfl (fun K hK => ?_) (AllReadyH.cons rfl (fun K hK => ?_) AllReadyH.nil)
          · have hCx := hCa.below hH.2.2.2
            refine step_appX Try.underlying52 Try.underlying52 gi0 gz0 gz1 gz2 rfl (by omega) (by omega) (.tmp 20) (.tmp 23) rfl rfl (w.heap.size + 1) (.slice (some ⟨wq.heap.size, 0, none⟩) 0 0) 0 [] (some ⟨g, 0, none⟩) k c ((hcells es).take (k * 2)) rfl rfl oE hCx H1a (by omega) (by omega) ?_
            intro a5 c5 w5 own5 gr5 at5
            simp only [Nat.zero_add, List.nil_append] at own5 at5 ⊢
            refine hK.out _ _ ⟨grown_cell gr5 hH.1 (fun e => by have := (owns_lt oE _ e).1; omega), grown_cell gr5 hH.2.1 (fun e => by have := (owns_lt oE _ e).1; omega), Nat.lt_of_lt_of_le hH.2.2.1 gr5.size, hH.2.2.2.grown gr5 hH.2.2.2.size (fun g hg => by have := (owns_lt oE g hg).1; omega)⟩ (fun hH => ?_)
            clear hK K gr5 at5 oE hCx
            simp only [Act.put, List.setIfInBounds_toArray, List.set_cons_zero, List.set_cons_succ]
            refine wpAnyH_ready (rs := [6]) (by kernel_rfl) (by simp) ?_
            refine AllReadyH.cons rfl (fun K hK => ?_) AllReadyH.nil
            · have kN : Below w5.heap.size w5 (w5.alloc (.cells #[.int .i64 t, .int .i64 m] 60)) := (Below.refl _ _).alloc (Nat.le_refl _) _
              have hCN := new_hold w5 t m 60
              go_simp
              refine hK.out _ _ ⟨keep_cell kN hH.1, keep_cell kN hH.2.1, Nat.lt_of_lt_of_le hH.2.2.1 kN.size, hH.2.2.2.trans (kN.mono hH.2.2.2.size)⟩ (fun hH => ?_)
              clear hK K
              replace own5 := owns_below own5 kN
              clear kN
              refine wpAnyH_ready (rs := [7]) (by kernel_rfl) (by simp) ?_
              refine AllReadyH.cons rfl (fun K hK => ?_) AllReadyH.nil
              · refine step_appX Try.underlying52 Try.underlying52 gi0 gz0 gz1 gz2 rfl (by omega) (by omega) (.tmp 24) (.tmp 26) rfl rfl (w.heap.size + 1) (.slice a5 k c5) k ((hcells es).take (k * 2)) _ 1 1 (hcells [⟨t, m⟩]) rfl rfl own5 hCN (hcells_one' _) (by omega) (by omega) ?_
                intro a7 c7 w7 own7 gr7 at7
                refine hK.out _ _ ⟨grown_cell gr7 hH.1 (fun e => by have := (owns_lt own5 _ e).1; omega), grown_cell gr7 hH.2.1 (fun e => by have := (owns_lt own5 _ e).1; omega), Nat.lt_of_lt_of_le hH.2.2.1 gr7.size, hH.2.2.2.grown gr7 hH.2.2.2.size (fun g hg => by have := (owns_lt own5 g hg).1; omega)⟩ (fun hH => ?_)
                clear hK K gr7 at7 own5 hCN
                simp only [Act.put, List.setIfInBounds_toArray, List.set_cons_zero, List.set_cons_succ]
                have hCd := hCb.below hH.2.2.2
                refine wpAnyH_ready (rs := [11]) (by kernel_rfl) (by simp) ?_
                refine AllReadyH.cons rfl (fun K hK => ?_) AllReadyH.nil
                refine step_appX Try.underlying52 Try.underlying52 gi0 gz0 gz1 gz2 rfl (by omega) (by omega) (.tmp 27) (.tmp 30) rfl rfl (w.heap.size + 1) (.slice a7 (k + 1) c7) (k + 1) _ (some ⟨g, k * 2, none⟩) 0 (c - k) ((hcells es).drop (k * 2)) rfl rfl own7 hCd H1b (by omega) (by omega) ?_
                intro a8 c8 w8 own8 gr8 at8
                refine hK.out _ _ ⟨grown_cell gr8 hH.1 (fun e => by have := (owns_lt own7 _ e).1; omega), grown_cell gr8 hH.2.1 (fun e => by have := (owns_lt own7 _ e).1; omega), Nat.lt_of_lt_of_le hH.2.2.1 gr8.size, hH.2.2.2.grown gr8 hH.2.2.2.size (fun g hg => by have := (owns_lt own7 g hg).1; omega)⟩ (fun hH => ?_)
                clear hK K gr8 at8 own7 hCd
                simp only [Act.put, List.setIfInBounds_toArray, List.set_cons_zero, List.set_cons_succ]
                refine hTake (i := 12) (v := ?_) rfl (by kernel_rfl) (by kernel_rfl) (by kernel_rfl) (by rfl) ?_ hH ?_
                rotate_left
                · intro W hW; (try dsimp only at hW); go_simp <;> with_reducible rfl
                simp only [Act.put, List.setIfInBounds_toArray, List.set_cons_zero, List.set_cons_succ]
                refine wpAnyH_done (by kernel_rfl) ?_ _
                refine NoPanic.normal ?_
                have en : k + 1 + 0 = k + 1 := by omega
                simp only [en] at own8 ⊢
                rw [← hcells_take, ← hcut_drop es k (by have := HL.out; omega), ← hcells_append, ← hcells_append] at own8
                rw [← HI.out] at own8
                obtain ⟨g8, rfl⟩ := own_at own8 (by omega)
                have O8 := hid (owns_base (base' := B) own8 (by omega))
                have k8 := hid hH.2.2.2
                clear own8 hH
                go_wp2
                exact bodyPost_ret (v := .slice (some ⟨g8, 0, none⟩) (k + 1) c8) (by simp [results, Try.results122, go_sem]) rfl ⟨g8, k + 1, c8, rfl, O8.out, by omega, k8.out⟩
          · have kN : Below (wq.alloc (.cells #[] 60)).heap.size (wq.alloc (.cells #[] 60)) ((wq.alloc (.cells #[] 60)).alloc (.cells #[.int .i64 t, .int .i64 m] 60)) := (Below.refl _ _).alloc (Nat.le_refl _) _
            have hCN := new_hold (wq.alloc (.cells #[] 60)) t m 60
            rw [show (wq.alloc (.cells #[] 60)).heap.size = wq.heap.size + 1 by simp] at hCN
            go_simp
            refine hK.out _ _ ⟨keep_cell kN hH.1, keep_cell kN hH.2.1, Nat.lt_of_lt_of_le hH.2.2.1 kN.size, hH.2.2.2.trans (kN.mono hH.2.2.2.size)⟩ (fun hH => ?_)
            clear hK K
            replace oE := owns_below oE kN
            clear kN
            refine wpAnyH_ready (rs := [4]) (by kernel_rfl) (by simp) ?_
            refine AllReadyH.cons rfl (fun K hK => ?_) AllReadyH.nil
            · have hCx := hCa.below hH.2.2.2
              refine step_appX Try.underlying52 Try.underlying52 gi0 gz0 gz1 gz2 rfl (by omega) (by omega) (.tmp 20) (.tmp 23) rfl rfl (w.heap.size + 1) (.slice (some ⟨wq.heap.size, 0, none⟩) 0 0) 0 [] (some ⟨g, 0, none⟩) k c ((hcells es).take (k * 2)) rfl rfl oE hCx H1a (by omega) (by omega) ?_
              intro a5 c5 w5 own5 gr5 at5
              simp only [Nat.zero_add, List.nil_append] at own5 at5 ⊢
              replace hCN := cells_grown hCN gr5 (fun b off ha e => by cases ha; simp [Value.ownBlock] at e)
              refine hK.out _ _ ⟨grown_cell gr5 hH.1 (fun e => by have := (owns_lt oE _ e).1; omega), grown_cell gr5 hH.2.1 (fun e => by have := (owns_lt oE _ e).1; omega), Nat.lt_of_lt_of_le hH.2.2.1 gr5.size, hH.2.2.2.grown gr5 hH.2.2.2.size (fun g hg => by have := (owns_lt oE g hg).1; omega)⟩ (fun hH => ?_)
              clear hK K gr5 at5 oE hCx
              simp only [Act.put, List.setIfInBounds_toArray, List.set_cons_zero, List.set_cons_succ]
              refine wpAnyH_ready (rs := [7]) (by kernel_rfl) (by simp) ?_
              refine AllReadyH.cons rfl (fun K hK => ?_) AllReadyH.nil
              · refine step_appX Try.underlying52 Try.underlying52 gi0 gz0 gz1 gz2 rfl (by omega) (by omega) (.tmp 24) (.tmp 26) rfl rfl (w.heap.size + 1) (.slice a5 k c5) k ((hcells es).take (k * 2)) _ 1 1 (hcells [⟨t, m⟩]) rfl rfl own5 hCN (hcells_one' _) (by omega) (by omega) ?_
                intro a7 c7 w7 own7 gr7 at7
                refine hK.out _ _ ⟨grown_cell gr7 hH.1 (fun e => by have := (owns_lt own5 _ e).1; omega), grown_cell gr7 hH.2.1 (fun e => by have := (owns_lt own5 _ e).1; omega), Nat.lt_of_lt_of_le hH.2.2.1 gr7.size, hH.2.2.2.grown gr7 hH.2.2.2.size (fun g hg => by have := (owns_lt own5 g hg).1; omega)⟩ (fun hH => ?_)
                clear hK K gr7 at7 own5 hCN
                simp only [Act.put, List.setIfInBounds_toArray, List.set_cons_zero, List.set_cons_succ]
                have hCd := hCb.below hH.2.2.2
                refine wpAnyH_ready (rs := [11]) (by kernel_rfl) (by simp) ?_
                refine AllReadyH.cons rfl (fun K hK => ?_) AllReadyH.nil
                refine step_appX Try.underlying52 Try.underlying52 gi0 gz0 gz1 gz2 rfl (by omega) (by omega) (.tmp 27) (.tmp 30) rfl rfl (w.heap.size + 1) (.slice a7 (k + 1) c7) (k + 1) _ (some ⟨g, k * 2, none⟩) 0 (c - k) ((hcells es).drop (k * 2)) rfl rfl own7 hCd H1b (by omega) (by omega) ?_
                intro a8 c8 w8 own8 gr8 at8
                refine hK.out _ _ ⟨grown_cell gr8 hH.1 (fun e => by have := (owns_lt own7 _ e).1; omega), grown_cell gr8 hH.2.1 (fun e => by have := (owns_lt own7 _ e).1; omega), Nat.lt_of_lt_of_le hH.2.2.1 gr8.size, hH.2.2.2.grown gr8 hH.2.2.2.size (fun g hg => by have := (owns_lt own7 g hg).1; omega)⟩ (fun hH => ?_)
                clear hK K gr8 at8 own7 hCd
                simp only [Act.put, List.setIfInBounds_toArray, List.set_cons_zero, List.set_cons_succ]
                refine hTake (i := 12) (v := ?_) rfl (by kernel_rfl) (by kernel_rfl) (by kernel_rfl) (by rfl) ?_ hH ?_
                rotate_left
                · intro W hW; (try dsimp only at hW); go_simp <;> with_reducible rfl
                simp only [Act.put, List.setIfInBounds_toArray, List.set_cons_zero, List.set_cons_succ]
                refine wpAnyH_done (by kernel_rfl) ?_ _
                refine NoPanic.normal ?_
                have en : k + 1 + 0 = k + 1 := by omega
                simp only [en] at own8 ⊢
                rw [← hcells_take, ← hcut_drop es k (by have := HL.out; omega), ← hcells_append, ← hcells_append] at own8
                rw [← HI.out] at own8
                obtain ⟨g8, rfl⟩ := own_at own8 (by omega)
                have O8 := hid (owns_base (base' := B) own8 (by omega))
                have k8 := hid hH.2.2.2
                clear own8 hH
                go_wp2
                exact bodyPost_ret (v := .slice (some ⟨g8, 0, none⟩) (k + 1) c8) (by simp [results, Try.results122, go_sem]) rfl ⟨g8, k + 1, c8, rfl, O8.out, by omega, k8.out⟩
        · have kN : Below wq.heap.size wq (wq.alloc (.cells #[.int .i64 t, .int .i64 m] 60)) := (Below.refl _ _).alloc (Nat.le_refl _) _
          have hCN := new_hold wq t m 60
          go_simp
          refine hK.out _ _ ⟨keep_cell kN hH.1, keep_cell kN hH.2.1, Nat.lt_of_lt_of_le hH.2.2.1 kN.size, hH.2.2.2.trans (kN.mono hH.2.2.2.size)⟩ (fun hH => ?_)
          clear hK K
          clear kN
          refine wpAnyH_ready (rs := [0]) (by kernel_rfl) (by simp) ?_
          refine AllReadyH.cons rfl (fun K hK => ?_) AllReadyH.nil
          · have oE := owns_base (base' := w.heap.size + 1) (new_empty (wq.alloc (.cells #[.int .i64 t, .int .i64 m] 60)) 60 2) (by have := hH.2.2.1; omega)
            have kE : Below (wq.alloc (.cells #[.int .i64 t, .int .i64 m] 60)).heap.size (wq.alloc (.cells #[.int .i64 t, .int .i64 m] 60)) ((wq.alloc (.cells #[.int .i64 t, .int .i64 m] 60)).alloc (.cells #[] 60)) := (Below.refl _ _).alloc (Nat.le_refl _) _
            rw [show (wq.alloc (.cells #[.int .i64 t, .int .i64 m] 60)).heap.size = wq.heap.size + 1 by simp] at oE
            go_simp
            refine hK.out _ _ ⟨keep_cell kE hH.1, keep_cell kE hH.2.1, Nat.lt_of_lt_of_le hH.2.2.1 kE.size, hH.2.2.2.trans (kE.mono hH.2.2.2.size)⟩ (fun hH => ?_)
            clear hK K
            replace hCN := hCN.below kE
            clear kE
            refine wpAnyH_ready (rs := [4]) (by kernel_rfl) (by simp) ?_
            refine AllReadyH.cons rfl (fun K hK => ?_) AllReadyH.nil
            · have hCx := hCa.below hH.2.2.2
              refine step_appX Try.underlying52 Try.underlying52 gi0 gz0 gz1 gz2 rfl (by omega) (by omega) (.tmp 20) (.tmp 23) rfl rfl (w.heap.size + 1) (.slice (some ⟨wq.heap.size + 1, 0, none⟩) 0 0) 0 [] (some ⟨g, 0, none⟩) k c ((hcells es).take (k * 2)) rfl rfl oE hCx H1a (by omega) (by omega) ?_
              intro a5 c5 w5 own5 gr5 at5
              simp only [Nat.zero_add, List.nil_append] at own5 at5 ⊢
              replace hCN := cells_grown hCN gr5 (fun b off ha e => by cases ha; simp [Value.ownBlock] at e)
              refine hK.out _ _ ⟨grown_cell gr5 hH.1 (fun e => by have := (owns_lt oE _ e).1; omega), grown_cell gr5 hH.2.1 (fun e => by have := (owns_lt oE _ e).1; omega), Nat.lt_of_lt_of_le hH.2.2.1 gr5.size, hH.2.2.2.grown gr5 hH.2.2.2.size (fun g hg => by have := (owns_lt oE g hg).1; omega)⟩ (fun hH => ?_)
              clear hK K gr5 at5 oE hCx
              simp only [Act.put, List.setIfInBounds_toArray, List.set_cons_zero, List.set_cons_succ]
              refine wpAnyH_ready (rs := [7]) (by kernel_rfl) (by simp) ?_
              refine AllReadyH.cons rfl (fun K hK => ?_) AllReadyH.nil
              · refine step_appX Try.underlying52 Try.underlying52 gi0 gz0 gz1 gz2 rfl (by omega) (by omega) (.tmp 24) (.tmp 26) rfl rfl (w.heap.size + 1) (.slice a5 k c5) k ((hcells es).take (k * 2)) _ 1 1 (hcells [⟨t, m⟩]) rfl rfl own5 hCN (hcells_one' _) (by omega) (by omega) ?_
                intro a7 c7 w7 own7 gr7 at7
                refine hK.out _ _ ⟨grown_cell gr7 hH.1 (fun e => by have := (owns_lt own5 _ e).1; omega), grown_cell gr7 hH.2.1 (fun e => by have := (owns_lt own5 _ e).1; omega), Nat.lt_of_lt_of_le hH.2.2.1 gr7.size, hH.2.2.2.grown gr7 hH.2.2.2.size (fun g hg => by have := (owns_lt own5 g hg).1; omega)⟩ (fun hH => ?_)
                clear hK K gr7 at7 own5 hCN
                simp only [Act.put, List.setIfInBounds_toArray, List.set_cons_zero, List.set_cons_succ]
                have hCd := hCb.below hH.2.2.2
                refine wpAnyH_ready (rs := [11]) (by kernel_rfl) (by simp) ?_
                refine AllReadyH.cons rfl (fun K hK => ?_) AllReadyH.nil
                refine step_appX Try.underlying52 Try.underlying52 gi0 gz0 gz1 gz2 rfl (by omega) (by omega) (.tmp 27) (.tmp 30) rfl rfl (w.heap.size + 1) (.slice a7 (k + 1) c7) (k + 1) _ (some ⟨g, k * 2, none⟩) 0 (c - k) ((hcells es).drop (k * 2)) rfl rfl own7 hCd H1b (by omega) (by omega) ?_
                intro a8 c8 w8 own8 gr8 at8
                refine hK.out _ _ ⟨grown_cell gr8 hH.1 (fun e => by have := (owns_lt own7 _ e).1; omega), grown_cell gr8 hH.2.1 (fun e => by have := (owns_lt own7 _ e).1; omega), Nat.lt_of_lt_of_le hH.2.2.1 gr8.size, hH.2.2.2.grown gr8 hH.2.2.2.size (fun g hg => by have := (owns_lt own7 g hg).1; omega)⟩ (fun hH => ?_)
                clear hK K gr8 at8 own7 hCd
                simp only [Act.put, List.setIfInBounds_toArray, List.set_cons_zero, List.set_cons_succ]
                refine hTake (i := 12) (v := ?_) rfl (by kernel_rfl) (by kernel_rfl) (by kernel_rfl) (by rfl) ?_ hH ?_
                rotate_left
                · intro W hW; (try dsimp only at hW); go_simp <;> with_reducible rfl
                simp only [Act.put, List.setIfInBounds_toArray, List.set_cons_zero, List.set_cons_succ]
                refine wpAnyH_done (by kernel_rfl) ?_ _
                refine NoPanic.normal ?_
                have en : k + 1 + 0 = k + 1 := by omega
                simp only [en] at own8 ⊢
                rw [← hcells_take, ← hcut_drop es k (by have := HL.out; omega), ← hcells_append, ← hcells_append] at own8
                rw [← HI.out] at own8
                obtain ⟨g8, rfl⟩ := own_at own8 (by omega)
                have O8 := hid (owns_base (base' := B) own8 (by omega))
                have k8 := hid hH.2.2.2
                clear own8 hH
                go_wp2
                exact bodyPost_ret (v := .slice (some ⟨g8, 0, none⟩) (k + 1) c8) (by simp [results, Try.results122, go_sem]) rfl ⟨g8, k + 1, c8, rfl, O8.out, by omega, k8.out⟩
end Go.Proofs.Ythfanfnbjldddaa


/- TurnIndex of the model. -/
namespace Go.Proofs.Ythfanfnbjldddaa
open Go.RowKit

def Ch.offP (ps : List Ch.Hold) (key : Int) : List Ch.Hold := ps.filter fun p => p.m != key
theorem Ch.offP_yes {ps : List Ch.Hold} {key : Int} {k : Nat} (h : k < ps.length) (hc : ((ps.getD k Ch.Hold.zero).m != key) = true) : Ch.offP (ps.take (k + 1)) key = Ch.offP (ps.take k) key ++ [ps.getD k Ch.Hold.zero] := by
  unfold Ch.offP
  rw [Ch.take_snoc ps Ch.Hold.zero k h, List.filter_append]
  generalize ps.getD k Ch.Hold.zero = x at *
  rw [List.filter_cons_of_pos (p := fun p : Ch.Hold => p.m != key) hc]; rfl
theorem Ch.offP_no {ps : List Ch.Hold} {key : Int} {k : Nat} (h : k < ps.length) (hc : ((ps.getD k Ch.Hold.zero).m != key) = false) : Ch.offP (ps.take (k + 1)) key = Ch.offP (ps.take k) key := by
  unfold Ch.offP
  rw [Ch.take_snoc ps Ch.Hold.zero k h, List.filter_append]
  generalize ps.getD k Ch.Hold.zero = x at *
  rw [List.filter_cons_of_neg (p := fun p : Ch.Hold => p.m != key) (by rw [hc]; simp)]; simp
theorem Ch.turnL_no {ps : List Ch.Hold} {key nk nv : Int} : Ch.turnL ps key ⟨nk, false, nv⟩ = Ch.offP ps key := rfl
theorem Ch.turnL_yes {ps : List Ch.Hold} {key nk nv : Int} : Ch.turnL ps key ⟨nk, true, nv⟩ = Ch.insP (Ch.offP ps key) ⟨nv, key⟩ := by
  rw [Ch.insP_insE]
  · rfl
  · intro hm
    have := (List.mem_filter.1 hm).2
    simp at this

set_option linter.unusedSimpArgs false in
set_option maxRecDepth 20000 in
set_option maxHeartbeats 4000000 in
theorem l9Turn_any (a : Option Addr) (n cap : Nat) (key nk : Int) (nh : Bool) (nv : Int) (ps : List Ch.Hold) (w : World) (h : CellsAt w a (n * 2) (hcells ps)) (hn : n ≤ 1048575) :
    Calls Try.prog 96 #[.slice a n cap, .int .i64 key, .agg #[.int .i64 nk, .bool nh, .int .i64 nv]] w fun e w' => ∃ g' m c', e = .returned (.slice (some ⟨g', 0, none⟩) m c') ∧ m ≤ n + 1 ∧ w'.ownsRow w.heap.size 60 2 (.slice (some ⟨g', 0, none⟩) m c') m (hcells (Ch.turnL ps key ⟨nk, nh, nv⟩)) ∧ Below w.heap.size w w' := by
  have HL := h.hlen
  obtain ⟨i0, hi0, hz0, hz1, hz2⟩ := info_parts Try.info60
  have oE := own_empty (w.alloc (.cells #[.int .i64 nk, .bool nh, .int .i64 nv] 32)) (w.heap.size + 1) 60 2 (by simp)
  rw [show (w.alloc (.cells #[.int .i64 nk, .bool nh, .int .i64 nv] 32)).heap.size = w.heap.size + 1 by simp] at oE
  have kE : Below w.heap.size w ((w.alloc (.cells #[.int .i64 nk, .bool nh, .int .i64 nv] 32)).alloc (.cells #[] 60)) := ((Below.refl _ _).alloc (Nat.le_refl _) _).alloc (by simp) _
  have hN : ((w.alloc (.cells #[.int .i64 nk, .bool nh, .int .i64 nv] 32)).alloc (.cells #[] 60)).heap[w.heap.size]? = some (.cells #[.int .i64 nk, .bool nh, .int .i64 nv] 32 (0, 0)) := block_below ((Below.refl _ _).alloc (Nat.le_refl _) _) (heap_alloc_new w _)
  go_enter Try.func96, Try.ntmps96
  go_wp2
  go_loopw [7, 8] (fun q i wr => ∃ (k m : Nat) (a' : Option Addr) (c' : Nat), k ≤ n ∧ m ≤ k ∧ i = .int .i64 k ∧ q = .slice a' m c' ∧ (∃ g, a' = some ⟨g, 0, none⟩) ∧ wr.ownsRow (w.heap.size + 1) 60 2 (.slice a' m c') m (hcells (Ch.offP (ps.take k) key)) ∧ wr.heap[w.heap.size]? = some (.cells #[.int .i64 nk, .bool nh, .int .i64 nv] 32 (0, 0)) ∧ w.heap.size + 1 ≤ wr.heap.size ∧ Below w.heap.size w wr) (fun _ i _ => n - (intOf i).toNat)
  case atStart => exact ⟨0, 0, _, _, Nat.zero_le _, Nat.le_refl _, rfl, rfl, ⟨_, rfl⟩, oE, hN, by simp, kE⟩
  case round =>
    clear oE kE hN
    obtain ⟨k, m, a', c', hk, hmk, rfl, rfl, hsm, own, hN, hsz, hB⟩ := hrel
    by_cases hlt : k < n
    · have hkl : k < ps.length := by have := HL.out; omega
      have HY := hid (fun he => Ch.offP_yes (key := key) hkl he)
      have HN := hid (fun he => Ch.offP_no (key := key) hkl he)
      obtain ⟨b, off, rfl, q0, q1⟩ := (h.below hB).hold hlt
      have hbl := lt_of_cell q0
      generalize ps.getD k Ch.Hold.zero = r at *
      obtain ⟨rt, rm⟩ := r
      simp only at q0 q1 HY HN
      generalize Ch.offP (ps.take k) key = zs at *
      have hsum : m + 1 ≤ 4194304 := by omega
      by_cases hh : rm = key
      · have e1 : (rm != key) = false := by simpa using hh
        replace HN := hid (HN.out e1)
        clear HY hh
        go_wp2
        go_roundw
        case rel => exact ⟨k + 1, m, a', c', by omega, by omega, by go_num, rfl, hsm, by rw [HN.out]; exact own, hN, hsz, hB⟩
        case measure => simp [intOf]; omega
      · have e1 : (rm != key) = true := by simpa using hh
        replace HY := hid (HY.out e1)
        clear HN hh
        have kQ : Below wr.heap.size wr (wr.alloc (.cells #[.int .i64 rt, .int .i64 rm] 60)) := (Below.refl _ _).alloc (Nat.le_refl _) _
        have own3 := owns_below own kQ
        have hN3 := block_below kQ hN
        have hC3 := new_hold wr rt rm 60
        have hb3 : w.heap.size + 1 ≤ (wr.alloc (.cells #[.int .i64 rt, .int .i64 rm] 60)).heap.size := by simp; omega
        have b3 := hB.trans (kQ.mono hB.size)
        go_wp2_with (at_builtin; go_must (refine wpList_appX Try.underlying52 Try.underlying52 hi0 hz0 hz1 hz2 rfl (by omega) (by omega) (.tmp 23) (.tmp 28) ?_ ?_ (w.heap.size + 1) (.slice a' m c') m (hcells zs) _ 1 1 (hcells [⟨rt, rm⟩]) ?_ ?_ own3 hC3 (hcells_one' _) hsum hb3 ?_; exact rfl; exact rfl; exact rfl; exact rfl; intro a5 c5 w5 own5 gr5 at5; go_frame))
        go_roundw
        case rel =>
          have hs5 := own_at own5 (by omega)
          rw [← hcells_append, ← HY.out] at own5
          exact ⟨k + 1, m + 1, a5, c5, by omega, by omega, by go_num, rfl, hs5, own5, block_grown gr5 hN3 (own_apart own3 (by omega)), Nat.le_trans hb3 gr5.size, b3.grown gr5 b3.size (fun g hg => by have := (owns_lt own3 g hg).1; omega)⟩
        case measure => simp [intOf]; omega
    · obtain rfl : k = n := by omega
      have HWF : Hid (ps.take k = ps) := by have := HL.out; show _ = _; rw [this]; exact List.take_length
      rw [HWF.out] at own
      obtain ⟨g, rfl⟩ := hsm
      obtain ⟨u0, u1, u2⟩ := row3' hN
      have lu := lt_of_cell u0
      cases nh
      · go_wp2
        go_ret
        exact ⟨g, m, c', rfl, by omega, by rw [Ch.turnL_no]; exact owns_base own (by omega), hB⟩
      · go_wp2_with fail
        refine (l9Put_any (w.heap.size + 1) g m c' (Ch.offP ps key) nv key _ own (by omega) hsz).mono ?_
        rintro e w9 ⟨g9, n9, c9, rfl, own9, hn9, b9⟩
        go_wp2
        go_ret
        exact ⟨g9, n9, c9, rfl, by omega, by rw [Ch.turnL_yes]; exact owns_base own9 (by omega), hB.trans (b9.mono hB.size)⟩

theorem Ch.there_next {ps : List Ch.Hold} {key : Int} {k : Nat} (h : k < ps.length) : Ch.thereP (ps.take (k + 1)) key = (Ch.thereP (ps.take k) key || (ps.getD k Ch.Hold.zero).m == key) := by
  unfold Ch.thereP
  rw [Ch.take_snoc ps Ch.Hold.zero k h, List.any_append]; simp
theorem Ch.right_next {ps : List Ch.Hold} {key v : Int} {k : Nat} (h : k < ps.length) : Ch.rightP (ps.take (k + 1)) key v = (Ch.rightP (ps.take k) key v || ((ps.getD k Ch.Hold.zero).m == key && (ps.getD k Ch.Hold.zero).t == v)) := by
  unfold Ch.rightP
  rw [Ch.take_snoc ps Ch.Hold.zero k h, List.any_append]; simp
theorem Ch.there_alone {ps : List Ch.Hold} {key : Int} {k : Nat} (hn : (Ch.keysOf ps).Nodup) (h : k < ps.length) (hk : (ps.getD k Ch.Hold.zero).m = key) : Ch.thereP (ps.take k) key = false := by
  unfold Ch.thereP
  rw [List.any_eq_false]
  intro p hp hc
  have hc : p.m = key := by simpa using hc
  have hp' : p.m ∈ Ch.keysOf (ps.take k) := List.mem_map.2 ⟨p, hp, rfl⟩
  obtain ⟨j, hj, he⟩ := (Ch.mem_keys (by omega)).1 hp'
  have := Ch.dup_found hj h (by rw [he, hc, hk])
  simp [Ch.ixDup, hn] at this

set_option linter.unusedSimpArgs false in
set_option maxRecDepth 20000 in
set_option maxHeartbeats 4000000 in
theorem specTurn_any (a : Option Addr) (n cap : Nat) (key ok : Int) (oh : Bool) (ov nk : Int) (nh : Bool) (nv : Int) (ps : List Ch.Hold) (w : World) (h : CellsAt w a (n * 2) (hcells ps)) (hn : n ≤ 1048576) :
    Calls Try.prog 45 #[.slice a n cap, .int .i64 key, .agg #[.int .i64 ok, .bool oh, .int .i64 ov], .agg #[.int .i64 nk, .bool nh, .int .i64 nv]] w fun e w' => ∃ a' m c', e = .returned (.agg #[.int .i64 (Ch.turnR ps key ⟨ok, oh, ov⟩ ⟨nk, nh, nv⟩).1, .slice a' m c']) ∧ m ≤ 1048576 ∧ w'.ownsRow w.heap.size 60 2 (.slice a' m c') m (hcells (Ch.turnR ps key ⟨ok, oh, ov⟩ ⟨nk, nh, nv⟩).2) ∧ Below w.heap.size w w' := by
  have IX := fun W hW => specIx_any a n cap ps W hW hn
  have HL := h.hlen
  have kA : Below w.heap.size w (((w.alloc (.cells #[.int .i64 ok, .bool oh, .int .i64 ov] 32)).alloc (.cells #[.int .i64 nk, .bool nh, .int .i64 nv] 32)).alloc (.cells #[.int .i64 0, .slice none 0 0] 71)) := (((Below.refl _ _).alloc (Nat.le_refl _) _).alloc (by simp) _).alloc (by simp; omega) _
  have k1 : Below (w.alloc (.cells #[.int .i64 ok, .bool oh, .int .i64 ov] 32)).heap.size (w.alloc (.cells #[.int .i64 ok, .bool oh, .int .i64 ov] 32)) (((w.alloc (.cells #[.int .i64 ok, .bool oh, .int .i64 ov] 32)).alloc (.cells #[.int .i64 nk, .bool nh, .int .i64 nv] 32)).alloc (.cells #[.int .i64 0, .slice none 0 0] 71)) := ((Below.refl _ _).alloc (Nat.le_refl _) _).alloc (by simp) _
  have hO := block_below k1 (heap_alloc_new w _)
  have k2 : Below ((w.alloc (.cells #[.int .i64 ok, .bool oh, .int .i64 ov] 32)).alloc (.cells #[.int .i64 nk, .bool nh, .int .i64 nv] 32)).heap.size ((w.alloc (.cells #[.int .i64 ok, .bool oh, .int .i64 ov] 32)).alloc (.cells #[.int .i64 nk, .bool nh, .int .i64 nv] 32)) (((w.alloc (.cells #[.int .i64 ok, .bool oh, .int .i64 ov] 32)).alloc (.cells #[.int .i64 nk, .bool nh, .int .i64 nv] 32)).alloc (.cells #[.int .i64 0, .slice none 0 0] 71)) := (Below.refl _ _).alloc (Nat.le_refl _) _
  have hN := block_below k2 (heap_alloc_new (w.alloc (.cells #[.int .i64 ok, .bool oh, .int .i64 ov] 32)) _)
  rw [show (w.alloc (.cells #[.int .i64 ok, .bool oh, .int .i64 ov] 32)).heap.size = w.heap.size + 1 by simp] at hN
  have hR := heap_alloc_new ((w.alloc (.cells #[.int .i64 ok, .bool oh, .int .i64 ov] 32)).alloc (.cells #[.int .i64 nk, .bool nh, .int .i64 nv] 32)) (.cells #[.int .i64 0, .slice none 0 0] 71)
  rw [show ((w.alloc (.cells #[.int .i64 ok, .bool oh, .int .i64 ov] 32)).alloc (.cells #[.int .i64 nk, .bool nh, .int .i64 nv] 32)).heap.size = w.heap.size + 2 by simp] at hR
  obtain ⟨x0, x1, x2⟩ := row3' hO
  obtain ⟨u0, u1, u2⟩ := row3' hN
  clear k1 k2
  obtain ⟨c, HC⟩ : ∃ c, Hid (Ch.ixFault ps = c) := ⟨_, rfl⟩
  rw [HC.out] at IX
  by_cases h0 : c = 0
  rotate_left
  · have hc : (c != 0) = true := by simpa using h0
    rw [Ch.turnR_code (Ch.tf_code HC.out hc) hc]
    clear HC h0
    go_enter Try.func45, Try.ntmps45
    go_wp2_with fail
    refine (IX _ (h.below kA)).mono ?_
    rintro e w1 ⟨rfl, b1⟩
    have hO1 := block_below b1 hO
    have hN1 := block_below b1 hN
    have hR1 := block_below b1 hR
    have B1 := kA.trans (b1.mono (by simp; omega))
    clear x0 x1 x2 u0 u1 u2
    have lz := (Array.getElem?_eq_some_iff.1 hR1).1
    obtain ⟨y0, y1, f0, f1⟩ := row2 hR1
    go_wp2
    exact bodyPost_ret (v := .agg #[.int .i64 c, .slice none 0 0]) (by simp [results, Try.results45, go_sem, y0, y1]) rfl ⟨none, 0, 0, rfl, by omega, World.ownsRow_nil _ _ _ _, (B1.setCell (p := ⟨w.heap.size + 2, 0, none⟩) (by show w.heap.size ≤ w.heap.size + 2; omega) _).setCell (p := ⟨w.heap.size + 2, 1, none⟩) (by show w.heap.size ≤ w.heap.size + 2; omega) _⟩
  subst h0
  obtain ⟨cb, HB⟩ : ∃ cb, Hid (Ch.befFault [⟨ok, oh, ov⟩, ⟨nk, nh, nv⟩] = cb) := ⟨_, rfl⟩
  by_cases hb0 : cb = 0
  rotate_left
  · have hc : (cb != 0) = true := by simpa using hb0
    rw [Ch.turnR_code (Ch.tf_bef HC.out HB.out hc) hc]
    clear HC hb0
    go_enter Try.func45, Try.ntmps45
    go_wp2_with fail
    refine (IX _ (h.below kA)).mono ?_
    rintro e w1 ⟨rfl, b1⟩
    have hO1 := block_below b1 hO
    have hN1 := block_below b1 hN
    have hR1 := block_below b1 hR
    have B1 := kA.trans (b1.mono (by simp; omega))
    clear x0 x1 x2 u0 u1 u2
    have ll := (Array.getElem?_eq_some_iff.1 hR1).1
    obtain ⟨x0, x1, x2⟩ := row3' hO1
    obtain ⟨u0, u1, u2⟩ := row3' hN1
    have hT := new_befs w1 ok oh ov nk nh nv 32
    have kT : Below w1.heap.size w1 (w1.alloc (.cells #[.int .i64 ok, .bool oh, .int .i64 ov, .int .i64 nk, .bool nh, .int .i64 nv] 32)) := (Below.refl _ _).alloc (Nat.le_refl _) _
    go_wp2_with fail
    refine (specBefores_any _ 2 2 [⟨ok, oh, ov⟩, ⟨nk, nh, nv⟩] _ hT (by omega)).mono ?_
    rintro e w2 ⟨rfl, b2⟩
    rw [HB.out]
    have kT2 := kT.trans (b2.mono (by simp))
    have hO2 := block_below kT2 hO1
    have hN2 := block_below kT2 hN1
    have hR2 := block_below kT2 hR1
    have B2 := B1.trans (kT2.mono B1.size)
    clear hO1 hN1 hR1 x0 x1 x2 u0 u1 u2 hT kT b2 kT2 b1 ll
    have lz := (Array.getElem?_eq_some_iff.1 hR2).1
    obtain ⟨y0, y1, f0, f1⟩ := row2 hR2
    go_wp2
    exact bodyPost_ret (v := .agg #[.int .i64 cb, .slice none 0 0]) (by simp [results, Try.results45, go_sem, y0, y1]) rfl ⟨none, 0, 0, rfl, by omega, World.ownsRow_nil _ _ _ _, (B2.setCell (p := ⟨w.heap.size + 2, 0, none⟩) (by show w.heap.size ≤ w.heap.size + 2; omega) _).setCell (p := ⟨w.heap.size + 2, 1, none⟩) (by show w.heap.size ≤ w.heap.size + 2; omega) _⟩
  subst hb0
  by_cases hk1 : ok = key
  rotate_left
  · have e1 : (ok != key) = true := by simpa using hk1
    rw [Ch.turnR_code (Ch.tf_form HC.out HB.out (by simp only; rw [e1]; rfl)) rfl]
    clear HC hk1
    go_enter Try.func45, Try.ntmps45
    go_wp2_with fail
    refine (IX _ (h.below kA)).mono ?_
    rintro e w1 ⟨rfl, b1⟩
    have hO1 := block_below b1 hO
    have hN1 := block_below b1 hN
    have hR1 := block_below b1 hR
    have B1 := kA.trans (b1.mono (by simp; omega))
    clear x0 x1 x2 u0 u1 u2
    have ll := (Array.getElem?_eq_some_iff.1 hR1).1
    obtain ⟨x0, x1, x2⟩ := row3' hO1
    obtain ⟨u0, u1, u2⟩ := row3' hN1
    have hT := new_befs w1 ok oh ov nk nh nv 32
    have kT : Below w1.heap.size w1 (w1.alloc (.cells #[.int .i64 ok, .bool oh, .int .i64 ov, .int .i64 nk, .bool nh, .int .i64 nv] 32)) := (Below.refl _ _).alloc (Nat.le_refl _) _
    go_wp2_with fail
    refine (specBefores_any _ 2 2 [⟨ok, oh, ov⟩, ⟨nk, nh, nv⟩] _ hT (by omega)).mono ?_
    rintro e w2 ⟨rfl, b2⟩
    rw [HB.out]
    have kT2 := kT.trans (b2.mono (by simp))
    have hO2 := block_below kT2 hO1
    have hN2 := block_below kT2 hN1
    have hR2 := block_below kT2 hR1
    have B2 := B1.trans (kT2.mono B1.size)
    clear hO1 hN1 hR1 x0 x1 x2 u0 u1 u2 hT kT b2 kT2 b1 ll
    obtain ⟨x0, x1, x2⟩ := row3' hO2
    have lz := (Array.getElem?_eq_some_iff.1 hR2).1
    obtain ⟨y0, y1, f0, f1⟩ := row2 hR2
    go_wp2
    exact bodyPost_ret (v := .agg #[.int .i64 1, .slice none 0 0]) (by simp [results, Try.results45, go_sem, y0, y1]) rfl ⟨none, 0, 0, rfl, by omega, World.ownsRow_nil _ _ _ _, (B2.setCell (p := ⟨w.heap.size + 2, 0, none⟩) (by show w.heap.size ≤ w.heap.size + 2; omega) _).setCell (p := ⟨w.heap.size + 2, 1, none⟩) (by show w.heap.size ≤ w.heap.size + 2; omega) _⟩
  subst hk1
  have e1 : (ok != ok) = false := by simp
  by_cases hk2 : nk = ok
  rotate_left
  · have e2 : (nk != ok) = true := by simpa using hk2
    rw [Ch.turnR_code (Ch.tf_form HC.out HB.out (by simp only; rw [e1, e2]; rfl)) rfl]
    clear HC hk2
    go_enter Try.func45, Try.ntmps45
    go_wp2_with fail
    refine (IX _ (h.below kA)).mono ?_
    rintro e w1 ⟨rfl, b1⟩
    have hO1 := block_below b1 hO
    have hN1 := block_below b1 hN
    have hR1 := block_below b1 hR
    have B1 := kA.trans (b1.mono (by simp; omega))
    clear x0 x1 x2 u0 u1 u2
    have ll := (Array.getElem?_eq_some_iff.1 hR1).1
    obtain ⟨x0, x1, x2⟩ := row3' hO1
    obtain ⟨u0, u1, u2⟩ := row3' hN1
    have hT := new_befs w1 ok oh ov nk nh nv 32
    have kT : Below w1.heap.size w1 (w1.alloc (.cells #[.int .i64 ok, .bool oh, .int .i64 ov, .int .i64 nk, .bool nh, .int .i64 nv] 32)) := (Below.refl _ _).alloc (Nat.le_refl _) _
    go_wp2_with fail
    refine (specBefores_any _ 2 2 [⟨ok, oh, ov⟩, ⟨nk, nh, nv⟩] _ hT (by omega)).mono ?_
    rintro e w2 ⟨rfl, b2⟩
    rw [HB.out]
    have kT2 := kT.trans (b2.mono (by simp))
    have hO2 := block_below kT2 hO1
    have hN2 := block_below kT2 hN1
    have hR2 := block_below kT2 hR1
    have B2 := B1.trans (kT2.mono B1.size)
    clear hO1 hN1 hR1 x0 x1 x2 u0 u1 u2 hT kT b2 kT2 b1 ll
    obtain ⟨x0, x1, x2⟩ := row3' hO2
    obtain ⟨u0, u1, u2⟩ := row3' hN2
    have lz := (Array.getElem?_eq_some_iff.1 hR2).1
    obtain ⟨y0, y1, f0, f1⟩ := row2 hR2
    go_wp2
    exact bodyPost_ret (v := .agg #[.int .i64 1, .slice none 0 0]) (by simp [results, Try.results45, go_sem, y0, y1]) rfl ⟨none, 0, 0, rfl, by omega, World.ownsRow_nil _ _ _ _, (B2.setCell (p := ⟨w.heap.size + 2, 0, none⟩) (by show w.heap.size ≤ w.heap.size + 2; omega) _).setCell (p := ⟨w.heap.size + 2, 1, none⟩) (by show w.heap.size ≤ w.heap.size + 2; omega) _⟩
  have e2 : (nk != ok) = false := by simpa using hk2
  have HT := hid (Ch.tf_last (key := ok) HC.out HB.out (by simp only; rw [e1, e2]; rfl))
  simp only at HT
  have HX := hid (Ch.ix_good HC.out)
  have hn2 : n ≤ 240 := by have := HX.out.len; have := HL.out; omega
  have HRC := hid (fun c (hh : Ch.turnF ps ok ⟨ok, oh, ov⟩ ⟨nk, nh, nv⟩ = c) (hc : (c != 0) = true) => Ch.turnR_code hh hc)
  have HRO := hid (fun (hh : Ch.turnF ps ok ⟨ok, oh, ov⟩ ⟨nk, nh, nv⟩ = 0) => Ch.turnR_ok hh)
  have LT := fun W hW => l9Turn_any a n cap ok nk nh nv ps W hW (by omega)
  generalize Ch.turnR ps ok ⟨ok, oh, ov⟩ ⟨nk, nh, nv⟩ = R at *
  generalize Ch.turnF ps ok ⟨ok, oh, ov⟩ ⟨nk, nh, nv⟩ = TF at *
  generalize Ch.turnL ps ok ⟨nk, nh, nv⟩ = TL at *
  clear HC hk2
  go_enter Try.func45, Try.ntmps45
  go_wp2_with fail
  refine (IX _ (h.below kA)).mono ?_
  rintro e w1 ⟨rfl, b1⟩
  have hO1 := block_below b1 hO
  have hN1 := block_below b1 hN
  have hR1 := block_below b1 hR
  have B1 := kA.trans (b1.mono (by simp; omega))
  clear x0 x1 x2 u0 u1 u2
  have ll := (Array.getElem?_eq_some_iff.1 hR1).1
  obtain ⟨x0, x1, x2⟩ := row3' hO1
  obtain ⟨u0, u1, u2⟩ := row3' hN1
  have hT := new_befs w1 ok oh ov nk nh nv 32
  have kT : Below w1.heap.size w1 (w1.alloc (.cells #[.int .i64 ok, .bool oh, .int .i64 ov, .int .i64 nk, .bool nh, .int .i64 nv] 32)) := (Below.refl _ _).alloc (Nat.le_refl _) _
  go_wp2_with fail
  refine (specBefores_any _ 2 2 [⟨ok, oh, ov⟩, ⟨nk, nh, nv⟩] _ hT (by omega)).mono ?_
  rintro e w2 ⟨rfl, b2⟩
  rw [HB.out]
  have kT2 := kT.trans (b2.mono (by simp))
  have hO2 := block_below kT2 hO1
  have hN2 := block_below kT2 hN1
  have hR2 := block_below kT2 hR1
  have B2 := B1.trans (kT2.mono B1.size)
  clear hO1 hN1 hR1 x0 x1 x2 u0 u1 u2 hT kT b2 kT2 b1 ll
  obtain ⟨x0, x1, x2⟩ := row3' hO2
  obtain ⟨u0, u1, u2⟩ := row3' hN2
  go_wp2
  go_loopw [11, 12, 13] (fun th ri i wr => ∃ k : Nat, k ≤ n ∧ i = .int .i64 k ∧ th = .bool (Ch.thereP (ps.take k) ok) ∧ ri = .bool (Ch.rightP (ps.take k) ok ov) ∧ Below w2.heap.size w2 wr) (fun _ _ i _ => n - (intOf i).toNat)
  case atStart => exact ⟨0, Nat.zero_le _, rfl, rfl, rfl, Below.refl _ _⟩
  case round =>
    clear x0 x1 x2 u0 u1 u2
    obtain ⟨k, hk, rfl, rfl, rfl, hB⟩ := hrel
    have hOr := block_below hB hO2
    have hNr := block_below hB hN2
    have hRr := block_below hB hR2
    obtain ⟨x0, x1, x2⟩ := row3' hOr
    obtain ⟨u0, u1, u2⟩ := row3' hNr
    have Br := B2.trans (hB.mono B2.size)
    have lx := lt_of_cell x0
    have lu := lt_of_cell u0
    by_cases hlt : k < n
    · have hkl : k < ps.length := by have := HL.out; omega
      have HTn := hid (Ch.there_next (key := ok) hkl)
      have HRn := hid (Ch.right_next (key := ok) (v := ov) hkl)
      have HA := hid (fun he => Ch.there_alone (key := ok) HX.out.nd hkl he)
      obtain ⟨b, off, rfl, q0, q1⟩ := (h.below Br).hold hlt
      have hbl := lt_of_cell q0
      generalize ps.getD k Ch.Hold.zero = r at *
      obtain ⟨rt, rm⟩ := r
      simp only at q0 q1 HTn HRn HA
      by_cases hm : rm = ok
      · have d1 : (rm == ok) = true := by simpa using hm
        have hal := HA.out hm
        have hnr := Ch.right_no (v := ov) hal
        rw [d1, Bool.or_true] at HTn
        rw [d1, hnr, Bool.false_or, Bool.true_and] at HRn
        clear HA hm hal hnr
        generalize Ch.thereP (ps.take k) ok = T0 at *
        generalize Ch.rightP (ps.take k) ok ov = R0 at *
        go_wp2_with fail
        refine wp_region_noPanic ?_
        refine wp_region_held_drew (S := fun W' => W'.cell? ⟨b, off + k * 2, none⟩ = some (.int .i64 rt) ∧ W'.cell? ⟨w.heap.size, 2, none⟩ = some (.int .i64 ov) ∧ Below w2.heap.size w2 W') (by kernel_rfl) (⟨q0, x2, hB.drew⟩) (fun hH => ?_)
        refine hTake (i := 0) (v := ?_) rfl (by kernel_rfl) (by kernel_rfl) (by kernel_rfl) (by rfl) ?_ hH ?_
        rotate_left
        · intro W hW; (try dsimp only at hW); go_simp <;> with_reducible rfl
        simp only [Act.put, List.setIfInBounds_toArray, List.set_cons_zero, List.set_cons_succ]
        refine hTake (i := 1) (v := ?_) rfl (by kernel_rfl) (by kernel_rfl) (by kernel_rfl) (by rfl) ?_ hH ?_
        rotate_left
        · intro W hW; (try dsimp only at hW); go_simp <;> with_reducible rfl
        simp only [Act.put, List.setIfInBounds_toArray, List.set_cons_zero, List.set_cons_succ]
        refine hTake (i := 2) (v := ?_) rfl (by kernel_rfl) (by kernel_rfl) (by kernel_rfl) (by rfl) ?_ hH ?_
        rotate_left
        · intro W hW; (try dsimp only at hW); go_simp <;> with_reducible rfl
        simp only [Act.put, List.setIfInBounds_toArray, List.set_cons_zero, List.set_cons_succ]
        refine hTake (i := 3) (v := ?_) rfl (by kernel_rfl) (by kernel_rfl) (by kernel_rfl) (by rfl) ?_ hH ?_
        rotate_left
        · intro W hW; (try dsimp only at hW); go_simp <;> with_reducible rfl
        simp only [Act.put, List.setIfInBounds_toArray, List.set_cons_zero, List.set_cons_succ]
        refine hTake (i := 4) (v := ?_) rfl (by kernel_rfl) (by kernel_rfl) (by kernel_rfl) (by rfl) ?_ hH ?_
        rotate_left
        · intro W hW; (try dsimp only at hW); go_simp <;> with_reducible rfl
        simp only [Act.put, List.setIfInBounds_toArray, List.set_cons_zero, List.set_cons_succ]
        refine hTake (i := 5) (v := ?_) rfl (by kernel_rfl) (by kernel_rfl) (by kernel_rfl) (by rfl) ?_ hH ?_
        rotate_left
        · intro W hW; (try dsimp only at hW); go_simp <;> with_reducible rfl
        simp only [Act.put, List.setIfInBounds_toArray, List.set_cons_zero, List.set_cons_succ]
        refine hTake (i := 6) (v := ?_) rfl (by kernel_rfl) (by kernel_rfl) (by kernel_rfl) (by rfl) ?_ hH ?_
        rotate_left
        · intro W hW; (try dsimp only at hW); go_simp <;> with_reducible rfl
        simp only [Act.put, List.setIfInBounds_toArray, List.set_cons_zero, List.set_cons_succ]
        refine hTake (i := 7) (v := ?_) rfl (by kernel_rfl) (by kernel_rfl) (by kernel_rfl) (by rfl) ?_ hH ?_
        rotate_left
        · intro W hW; (try dsimp only at hW); go_simp <;> with_reducible rfl
        simp only [Act.put, List.setIfInBounds_toArray, List.set_cons_zero, List.set_cons_succ]
        refine hTake (i := 8) (v := ?_) rfl (by kernel_rfl) (by kernel_rfl) (by kernel_rfl) (by rfl) ?_ hH ?_
        rotate_left
        · intro W hW; (try dsimp only at hW); go_simp <;> with_reducible rfl
        simp only [Act.put, List.setIfInBounds_toArray, List.set_cons_zero, List.set_cons_succ]
        refine wpAnyH_done (by kernel_rfl) ?_ _
        refine NoPanic.normal ?_
        have hB' := hH.2.2
        clear hH
        go_wp2
        go_roundw
        case rel => exact ⟨k + 1, by omega, by go_num, by rw [HTn.out], by rw [HRn.out], hB'⟩
        case measure => simp [intOf]; omega
      · have d1 : (rm == ok) = false := by simpa using hm
        rw [d1, Bool.or_false] at HTn
        rw [d1, Bool.false_and, Bool.or_false] at HRn
        rw [← HTn.out, ← HRn.out]
        clear HA hm
        go_wp2
        go_roundw
        case rel => exact ⟨k + 1, by omega, by go_num, rfl, rfl, hB⟩
        case measure => simp [intOf]; omega
    · obtain rfl : k = n := by omega
      have HWF : Hid (ps.take k = ps) := by have := HL.out; show _ = _; rw [this]; exact List.take_length
      rw [HWF.out]
      have lz := (Array.getElem?_eq_some_iff.1 hRr).1
      obtain ⟨y0, y1, f0, f1⟩ := row2 hRr
      have HNR := hid (fun ht => Ch.right_no (ps := ps) (key := ok) (v := ov) ht)
      generalize Ch.thereP ps ok = T0 at *
      generalize Ch.rightP ps ok ov = R0 at *
      clear HWF HX hO2 hN2 hR2
      cases oh
      · cases T0
        · have HZ := hid (HRO.out HT.out)
          go_wp2_with fail
          refine (LT _ (h.below Br)).mono ?_
          rintro e w5 ⟨g5, m5, c5, rfl, hm5, o5, b5⟩
          have hR5 := block_below b5 hRr
          have B5 := Br.trans (b5.mono Br.size)
          have lz5 := (Array.getElem?_eq_some_iff.1 hR5).1
          obtain ⟨z0, z1, d0, d1⟩ := row2 hR5
          clear y0 y1 f0 f1 x0 x1 x2 u0 u1 u2
          go_wp2
          refine bodyPost_ret (v := .agg #[.int .i64 0, .slice (some ⟨g5, 0, none⟩) m5 c5]) (by simp [results, Try.results45, go_sem, z0, z1]) rfl ⟨_, m5, c5, by rw [HZ.out], by omega, ?_, (B5.setCell (p := ⟨w.heap.size + 2, 0, none⟩) (by show w.heap.size ≤ w.heap.size + 2; omega) _).setCell (p := ⟨w.heap.size + 2, 1, none⟩) (by show w.heap.size ≤ w.heap.size + 2; omega) _⟩
          rw [HZ.out]
          refine owns_base (base := wr.heap.size) (ownsRow_setCell_below (ownsRow_setCell_below o5 ?_ _) ?_ _) Br.size
          · show w.heap.size + 2 < wr.heap.size; exact lz
          · show w.heap.size + 2 < wr.heap.size; exact lz
        · have HZ := hid (HRC.out 7 HT.out rfl)
          go_wp2
          exact bodyPost_ret (v := .agg #[.int .i64 7, .slice none 0 0]) (by simp [results, Try.results45, go_sem, y0, y1]) rfl ⟨none, 0, 0, by rw [HZ.out], by omega, by rw [HZ.out]; exact World.ownsRow_nil _ _ _ _, (Br.setCell (p := ⟨w.heap.size + 2, 0, none⟩) (by show w.heap.size ≤ w.heap.size + 2; omega) _).setCell (p := ⟨w.heap.size + 2, 1, none⟩) (by show w.heap.size ≤ w.heap.size + 2; omega) _⟩
      · cases T0
        · have hr0 := HNR.out rfl
          subst hr0
          have HZ := hid (HRC.out 4 HT.out rfl)
          go_wp2
          exact bodyPost_ret (v := .agg #[.int .i64 4, .slice none 0 0]) (by simp [results, Try.results45, go_sem, y0, y1]) rfl ⟨none, 0, 0, by rw [HZ.out], by omega, by rw [HZ.out]; exact World.ownsRow_nil _ _ _ _, (Br.setCell (p := ⟨w.heap.size + 2, 0, none⟩) (by show w.heap.size ≤ w.heap.size + 2; omega) _).setCell (p := ⟨w.heap.size + 2, 1, none⟩) (by show w.heap.size ≤ w.heap.size + 2; omega) _⟩
        · cases R0
          · have HZ := hid (HRC.out 4 HT.out rfl)
            go_wp2
            exact bodyPost_ret (v := .agg #[.int .i64 4, .slice none 0 0]) (by simp [results, Try.results45, go_sem, y0, y1]) rfl ⟨none, 0, 0, by rw [HZ.out], by omega, by rw [HZ.out]; exact World.ownsRow_nil _ _ _ _, (Br.setCell (p := ⟨w.heap.size + 2, 0, none⟩) (by show w.heap.size ≤ w.heap.size + 2; omega) _).setCell (p := ⟨w.heap.size + 2, 1, none⟩) (by show w.heap.size ≤ w.heap.size + 2; omega) _⟩
          · have HZ := hid (HRO.out HT.out)
            go_wp2_with fail
            refine (LT _ (h.below Br)).mono ?_
            rintro e w5 ⟨g5, m5, c5, rfl, hm5, o5, b5⟩
            have hR5 := block_below b5 hRr
            have B5 := Br.trans (b5.mono Br.size)
            have lz5 := (Array.getElem?_eq_some_iff.1 hR5).1
            obtain ⟨z0, z1, d0, d1⟩ := row2 hR5
            clear y0 y1 f0 f1 x0 x1 x2 u0 u1 u2
            go_wp2
            refine bodyPost_ret (v := .agg #[.int .i64 0, .slice (some ⟨g5, 0, none⟩) m5 c5]) (by simp [results, Try.results45, go_sem, z0, z1]) rfl ⟨_, m5, c5, by rw [HZ.out], by omega, ?_, (B5.setCell (p := ⟨w.heap.size + 2, 0, none⟩) (by show w.heap.size ≤ w.heap.size + 2; omega) _).setCell (p := ⟨w.heap.size + 2, 1, none⟩) (by show w.heap.size ≤ w.heap.size + 2; omega) _⟩
            rw [HZ.out]
            refine owns_base (base := wr.heap.size) (ownsRow_setCell_below (ownsRow_setCell_below o5 ?_ _) ?_ _) Br.size
            · show w.heap.size + 2 < wr.heap.size; exact lz
            · show w.heap.size + 2 < wr.heap.size; exact lz
end Go.Proofs.Ythfanfnbjldddaa

