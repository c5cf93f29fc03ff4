/- WithoutTxn of the model. -/
import Derived.Test.YtbeolkklnlljcaaEdB
import Derived.Test.YtbeolkklnlljcaaLkE
namespace Go.Proofs.Ytbeolkklnlljcaa
open Go.RowKit

set_option linter.unusedSimpArgs false in
set_option maxRecDepth 20000 in
set_option maxHeartbeats 4000000 in
theorem specWithout_any (a : Option Addr) (n cap : Nat) (t : Int) (es : List Ch.Hold) (w : World) (h : CellsAt w a (n * 2) (hcells es)) (hn : n ≤ 1048576) :
    Calls Try.prog 56 #[.slice a n cap, .int .i64 t] w fun e w' => ∃ a' m c', e = .returned (.agg #[.int .i64 (Ch.withoutR es t).1, .slice a' m c']) ∧ m ≤ 1048576 ∧ w'.ownsRow w.heap.size 50 2 (.slice a' m c') m (hcells (Ch.withoutR es t).2) ∧ Below w.heap.size w w' := by
  have IA := fun W hW => l7Fault_any a n cap es W hW hn
  have IT := fun W => l2Txn_any t W
  have HR : Hid (Ch.edgesT es t = if Ch.edgesFault es != 0 then Ch.edgesFault es else if Ch.inB t 1 999 then 0 else 3) := rfl
  have kA : ∀ o, Below w.heap.size w (w.alloc o) := fun o => (Below.refl _ _).alloc (Nat.le_refl _) o
  have HL := h.hlen
  obtain ⟨i0, hi0, hz0, hz1, hz2⟩ := info_parts Try.info50
  generalize Ch.edgesFault es = c at *
  by_cases h0 : c = 0
  · subst h0
    cases ht : Ch.inB t 1 999
    all_goals rw [ht] at IT HR
    · rw [Ch.withoutR_bad HR.out (by decide)]
      clear HR
      go_enter Try.func56, Try.ntmps56
      go_wp2_with fail
      refine (IA _ (h.below (kA _))).mono ?_
      rintro e w1 ⟨rfl, b1⟩
      have hR := heap_below b1 (heap_alloc_new w _)
      have b1 := below_box b1
      have lz := (Array.getElem?_eq_some_iff.1 hR).1
      obtain ⟨x0, x1, f0, f1⟩ := row2 hR
      clear IA
      go_wp2_with fail
      refine (IT _).mono ?_
      rintro e w2 ⟨rfl, rfl⟩
      go_wp2
      exact bodyPost_ret (v := .agg #[.int .i64 3, .slice none 0 0]) (by simp [results, Try.results56, go_sem, x0, x1]) rfl ⟨none, 0, 0, rfl, by omega, World.ownsRow_nil _ _ _ _, (b1.setCell (p := ⟨w.heap.size, 0, none⟩) (Nat.le_refl _) _).setCell (p := ⟨w.heap.size, 1, none⟩) (Nat.le_refl _) _⟩
    rw [Ch.withoutR_ok HR.out]
    have hn4 : n ≤ 400 := by have := Ch.edgesT_many HR.out; have := HL.out; omega
    clear HR
    go_enter Try.func56, Try.ntmps56
    go_wp2_with fail
    refine (IA _ (h.below (kA _))).mono ?_
    rintro e w1 ⟨rfl, b1⟩
    have hR := heap_below b1 (heap_alloc_new w _)
    have b1 := below_box b1
    have lz := (Array.getElem?_eq_some_iff.1 hR).1
    obtain ⟨x0, x1, f0, f1⟩ := row2 hR
    clear IA
    go_wp2_with fail
    refine (IT _).mono ?_
    rintro e w2 ⟨rfl, hw2⟩
    obtain rfl := hw2.symm
    clear IT
    go_wp2
    go_loopw [7] (fun i wr => ∃ (k m : Nat) (a' : Option Addr) (c' : Nat), k ≤ n ∧ m ≤ k ∧ i = .int .i64 k ∧ wr.heap[w.heap.size]? = some (.cells #[.int .i64 0, .slice none 0 0] 47 (0, 0)) ∧ wr.heap[w1.heap.size]? = some (.cells #[.int .i64 0, .slice a' m c'] 47 (0, 0)) ∧ wr.ownsRow (w1.heap.size + 1) 50 2 (.slice a' m c') m (hcells (Ch.withoutE (es.take k) t)) ∧ w1.heap.size < wr.heap.size ∧ Below w.heap.size w wr) (fun i _ => n - (intOf i).toNat)
    case atStart => exact ⟨0, 0, none, 0, Nat.zero_le _, Nat.le_refl _, rfl, (heap_old' lz).trans hR, heap_alloc_new w1 _, World.ownsRow_nil _ _ _ _, by simp, b1.alloc b1.size _⟩
    case round =>
      clear hR x0 x1 f0 f1
      obtain ⟨k, m, a', c', hk, hmk, rfl, hR, hX, own, hsz, hB⟩ := hrel
      obtain ⟨x0, x1, f0, f1⟩ := row2 hR
      obtain ⟨y0, y1, g0, g1⟩ := row2 hX
      have lr := (Array.getElem?_eq_some_iff.1 hR).1
      by_cases hlt : k < n
      · have hkl : k < es.length := by have := HL.out; omega
        have HY := hid (fun he => Ch.withoutE_yes (t := t) hkl he)
        have HN := hid (fun he => Ch.withoutE_no (t := t) hkl he)
        obtain ⟨b, off, rfl, q0, q1⟩ := (h.below hB).hold hlt
        have hbl := lt_of_cell q0
        have hblw : b < w.heap.size := by
          obtain ⟨b', off', hbo, hq, _⟩ := h.hold hlt
          simp only [Option.some.injEq, Addr.mk.injEq, and_true] at hbo
          rw [hbo.1]
          exact lt_of_cell hq
        generalize es.getD k Ch.Hold.zero = r at *
        obtain ⟨rt, rm⟩ := r
        simp only at q0 q1 HY HN
        generalize Ch.withoutE (es.take k) t = zs at *
        have hsum : m + 1 ≤ 4194304 := by omega
        by_cases h1 : rt = t
        · have e1 : (rt != t) = false := by simpa using h1
          replace HN := hid (HN.out (show Ch.keepE t ⟨rt, rm⟩ = false by unfold Ch.keepE; simp only [e1]; rfl))
          clear h1 HY
          go_wp2
          go_roundw
          case rel => exact ⟨k + 1, m, a', c', by omega, by omega, by go_num, hR, hX, by rw [HN.out]; exact own, hsz, hB⟩
          case measure => simp [intOf]; omega
        have e1 : (rt != t) = true := by simpa using h1
        clear h1
        by_cases h2 : rm = t
        · have e2 : (rm != t) = false := by simpa using h2
          replace HN := hid (HN.out (show Ch.keepE t ⟨rt, rm⟩ = false by unfold Ch.keepE; simp only [e1, e2]; rfl))
          clear h2 HY
          go_wp2
          go_roundw
          case rel => exact ⟨k + 1, m, a', c', by omega, by omega, by go_num, hR, hX, by rw [HN.out]; exact own, hsz, hB⟩
          case measure => simp [intOf]; omega
        have e2 : (rm != t) = true := by simpa using h2
        replace HY := hid (HY.out (show Ch.keepE t ⟨rt, rm⟩ = true by unfold Ch.keepE; simp only [e1, e2]; rfl))
        clear h2 HN
        have kQ : Below wr.drew.heap.size wr.drew (wr.drew.alloc (.cells #[.int .i64 rt, .int .i64 rm] 50)) := (Below.refl _ _).alloc (Nat.le_refl _) _
        have kD : Below wr.heap.size wr (wr.drew.alloc (.cells #[.int .i64 rt, .int .i64 rm] 50)) := ((Below.refl _ _).drew).alloc (Nat.le_refl _) _
        have own3 := owns_below own kD
        have hX3 := heap_below kD hX
        have hR3 := heap_below kD hR
        have hC3 := new_hold wr.drew rt rm 50
        have hb3 : w1.heap.size + 1 ≤ (wr.drew.alloc (.cells #[.int .i64 rt, .int .i64 rm] 50)).heap.size := by simp; omega
        have hnb := own_ne own3 (show b < w1.heap.size + 1 by omega)
        go_wp2_with fail
        refine wp_region_noPanic ?_
        refine wp_region_held_drew (S := fun W' => W'.cell? ⟨b, off + k * 2, none⟩ = some (.int .i64 rt) ∧ W'.cell? ⟨b, off + k * 2 + 1, none⟩ = some (.int .i64 rm)) (by kernel_rfl) (⟨q0, q1⟩) (fun hH => ?_)
        refine hTake (i := 0) (v := ?_) rfl (by kernel_rfl) (by kernel_rfl) (by kernel_rfl) (by rfl) ?_ hH ?_
        rotate_left
        · intro W hW; (try dsimp only at hW); go_simp <;> with_reducible rfl
        simp only [Act.put, List.setIfInBounds_toArray, List.set_cons_zero, List.set_cons_succ]
        refine hTake (i := 2) (v := ?_) rfl (by kernel_rfl) (by kernel_rfl) (by kernel_rfl) (by rfl) ?_ hH ?_
        rotate_left
        · intro W hW; (try dsimp only at hW); go_simp <;> with_reducible rfl
        simp only [Act.put, List.setIfInBounds_toArray, List.set_cons_zero, List.set_cons_succ]
        refine hTake (i := 3) (v := ?_) rfl (by kernel_rfl) (by kernel_rfl) (by kernel_rfl) (by rfl) ?_ hH ?_
        rotate_left
        · intro W hW; (try dsimp only at hW); go_simp <;> with_reducible rfl
        simp only [Act.put, List.setIfInBounds_toArray, List.set_cons_zero, List.set_cons_succ]
        refine hTake (i := 4) (v := ?_) rfl (by kernel_rfl) (by kernel_rfl) (by kernel_rfl) (by rfl) ?_ hH ?_
        rotate_left
        · intro W hW; (try dsimp only at hW); go_simp <;> with_reducible rfl
        simp only [Act.put, List.setIfInBounds_toArray, List.set_cons_zero, List.set_cons_succ]
        refine hTake (i := 5) (v := ?_) rfl (by kernel_rfl) (by kernel_rfl) (by kernel_rfl) (by rfl) ?_ hH ?_
        rotate_left
        · intro W hW; (try dsimp only at hW); go_simp <;> with_reducible rfl
        simp only [Act.put, List.setIfInBounds_toArray, List.set_cons_zero, List.set_cons_succ]
        refine wpAnyH_ready (rs := [1, 6]) (by kernel_rfl) (by simp) ?_
        refine AllReadyH.cons rfl (fun K hK => ?_) (AllReadyH.cons rfl (fun K hK => ?_) AllReadyH.nil)
        · have ly1 : wr.drew.cell? ⟨w1.heap.size, 1, none⟩ = some (.slice a' m c') := y1
          go_simp
          refine hK.out _ _ hH (fun hH => ?_)
          clear hK K
          refine wpAnyH_ready (rs := [6]) (by kernel_rfl) (by simp) ?_
          refine AllReadyH.cons rfl (fun K hK => ?_) AllReadyH.nil
          go_simp
          refine hK.out _ _ ⟨keep_cell kQ hH.1, keep_cell kQ hH.2⟩ (fun hH => ?_)
          clear hK K
          refine wpAnyH_ready (rs := [7]) (by kernel_rfl) (by simp) ?_
          refine AllReadyH.cons rfl (fun K hK => ?_) AllReadyH.nil
          refine step_appX Try.underlying45 Try.underlying45 hi0 hz0 hz1 hz2 rfl (by omega) (by omega) (.tmp 42) (.tmp 47) rfl rfl (w1.heap.size + 1) (.slice a' m c') m (hcells zs) _ 1 1 (hcells [⟨rt, rm⟩]) rfl rfl own3 hC3 (hcells_one' _) hsum hb3 ?_
          intro a5 c5 w5 own5 gr5 at5
          have hX5 := gr_heap gr5 hX3 (own_ne own3 (by omega))
          have hR5 := gr_heap gr5 hR3 (own_ne own3 (by omega))
          obtain ⟨v0, v1, e0, e1⟩ := row2 hX5
          have lv := lt_of_cell v0
          refine hK.out _ _ ⟨grown_cell gr5 hH.1 hnb, grown_cell gr5 hH.2 hnb⟩ (fun hH => ?_)
          clear hK K
          simp only [Act.put, List.setIfInBounds_toArray, List.set_cons_zero, List.set_cons_succ]
          refine hTake (i := 8) (v := ?_) rfl (by kernel_rfl) (by kernel_rfl) (by kernel_rfl) (by rfl) ?_ hH ?_
          rotate_left
          · intro W hW; (try dsimp only at hW); go_simp <;> with_reducible rfl
          simp only [Act.put, List.setIfInBounds_toArray, List.set_cons_zero, List.set_cons_succ]
          refine wpAnyH_ready (rs := [9]) (by kernel_rfl) (by simp) ?_
          refine AllReadyH.cons rfl (fun K hK => ?_) AllReadyH.nil
          go_simp
          refine hK.out _ _ (by constructor <;> go_simp) (fun hH => ?_)
          clear hK K
          refine wpAnyH_done (by kernel_rfl) ?_ _
          refine NoPanic.normal ?_
          go_wp2
          go_roundw
          case rel =>
            rw [← hcells_append, ← HY.out] at own5
            have b3 := (hB.alloc hB.size (.cells #[.int .i64 rt, .int .i64 rm] 50)).drew
            have b5 := b3.grown gr5 b3.size (fun g hg => by have := (owns_lt own3 g hg).1; omega)
            refine ⟨k + 1, m + 1, a5, c5, by omega, by omega, by go_num, ?_, ?_, ?_, ?_, b5.setCell (p := ⟨w1.heap.size, 1, none⟩) (by show w.heap.size ≤ w1.heap.size; omega) _⟩
            · exact (Below.heap_setCell _ _ _ _ (by show w.heap.size ≠ w1.heap.size; omega)).trans hR5
            · have := Joins.block_setCell (i := 1) hX5 (.slice a5 (m + 1) c5)
              simpa using this
            · exact ownsRow_setCell_below own5 (by show w1.heap.size < w1.heap.size + 1; omega) _
            · have := gr5.size; simp at this ⊢; omega
          case measure => simp [intOf]; omega
        · go_simp
          refine hK.out _ _ ⟨keep_cell kQ hH.1, keep_cell kQ hH.2⟩ (fun hH => ?_)
          clear hK K
          refine wpAnyH_ready (rs := [1]) (by kernel_rfl) (by simp) ?_
          refine AllReadyH.cons rfl (fun K hK => ?_) AllReadyH.nil
          have ly1 := keep_cell kQ (show wr.drew.cell? ⟨w1.heap.size, 1, none⟩ = some (.slice a' m c') from y1)
          go_simp
          refine hK.out _ _ hH (fun hH => ?_)
          clear hK K
          refine wpAnyH_ready (rs := [7]) (by kernel_rfl) (by simp) ?_
          refine AllReadyH.cons rfl (fun K hK => ?_) AllReadyH.nil
          refine step_appX Try.underlying45 Try.underlying45 hi0 hz0 hz1 hz2 rfl (by omega) (by omega) (.tmp 42) (.tmp 47) rfl rfl (w1.heap.size + 1) (.slice a' m c') m (hcells zs) _ 1 1 (hcells [⟨rt, rm⟩]) rfl rfl own3 hC3 (hcells_one' _) hsum hb3 ?_
          intro a5 c5 w5 own5 gr5 at5
          have hX5 := gr_heap gr5 hX3 (own_ne own3 (by omega))
          have hR5 := gr_heap gr5 hR3 (own_ne own3 (by omega))
          obtain ⟨v0, v1, e0, e1⟩ := row2 hX5
          have lv := lt_of_cell v0
          refine hK.out _ _ ⟨grown_cell gr5 hH.1 hnb, grown_cell gr5 hH.2 hnb⟩ (fun hH => ?_)
          clear hK K
          simp only [Act.put, List.setIfInBounds_toArray, List.set_cons_zero, List.set_cons_succ]
          refine hTake (i := 8) (v := ?_) rfl (by kernel_rfl) (by kernel_rfl) (by kernel_rfl) (by rfl) ?_ hH ?_
          rotate_left
          · intro W hW; (try dsimp only at hW); go_simp <;> with_reducible rfl
          simp only [Act.put, List.setIfInBounds_toArray, List.set_cons_zero, List.set_cons_succ]
          refine wpAnyH_ready (rs := [9]) (by kernel_rfl) (by simp) ?_
          refine AllReadyH.cons rfl (fun K hK => ?_) AllReadyH.nil
          go_simp
          refine hK.out _ _ (by constructor <;> go_simp) (fun hH => ?_)
          clear hK K
          refine wpAnyH_done (by kernel_rfl) ?_ _
          refine NoPanic.normal ?_
          go_wp2
          go_roundw
          case rel =>
            rw [← hcells_append, ← HY.out] at own5
            have b3 := (hB.alloc hB.size (.cells #[.int .i64 rt, .int .i64 rm] 50)).drew
            have b5 := b3.grown gr5 b3.size (fun g hg => by have := (owns_lt own3 g hg).1; omega)
            refine ⟨k + 1, m + 1, a5, c5, by omega, by omega, by go_num, ?_, ?_, ?_, ?_, b5.setCell (p := ⟨w1.heap.size, 1, none⟩) (by show w.heap.size ≤ w1.heap.size; omega) _⟩
            · exact (Below.heap_setCell _ _ _ _ (by show w.heap.size ≠ w1.heap.size; omega)).trans hR5
            · have := Joins.block_setCell (i := 1) hX5 (.slice a5 (m + 1) c5)
              simpa using this
            · exact ownsRow_setCell_below own5 (by show w1.heap.size < w1.heap.size + 1; omega) _
            · have := gr5.size; simp at this ⊢; omega
          case measure => simp [intOf]; omega
      · obtain rfl : k = n := by omega
        have HWF : Hid (es.take k = es) := by have := HL.out; show _ = _; rw [this]; exact List.take_length
        rw [HWF.out] at own
        go_wp2
        refine bodyPost_ret (v := .agg #[.int .i64 0, .slice a' m c']) (by simp [results, Try.results56, go_sem, x0, x1]) rfl ⟨a', m, c', rfl, by omega, ?_, ?_⟩
        · refine owns_base (base := w1.heap.size + 1) (ownsRow_setCell_below (ownsRow_setCell_below own ?_ _) ?_ _) (by omega)
          · show w.heap.size < w1.heap.size + 1; omega
          · show w.heap.size < w1.heap.size + 1; omega
        · exact (hB.setCell (p := ⟨w.heap.size, 0, none⟩) (Nat.le_refl _) _).setCell (p := ⟨w.heap.size, 1, none⟩) (Nat.le_refl _) _
  · have hc : (c != 0) = true := by simpa using h0
    rw [hc] at HR
    rw [Ch.withoutR_bad HR.out h0]
    clear HR
    go_enter Try.func56, Try.ntmps56
    go_wp2_with fail
    refine (IA _ (h.below (kA _))).mono ?_
    rintro e w1 ⟨rfl, b1⟩
    have hR := heap_below b1 (heap_alloc_new w _)
    have b1 := below_box b1
    have lz := (Array.getElem?_eq_some_iff.1 hR).1
    obtain ⟨x0, x1, f0, f1⟩ := row2 hR
    go_wp2
    exact bodyPost_ret (v := .agg #[.int .i64 c, .slice none 0 0]) (by simp [results, Try.results56, go_sem, x0, x1]) rfl ⟨none, 0, 0, rfl, by omega, World.ownsRow_nil _ _ _ _, (b1.setCell (p := ⟨w.heap.size, 0, none⟩) (Nat.le_refl _) _).setCell (p := ⟨w.heap.size, 1, none⟩) (Nat.le_refl _) _⟩
end Go.Proofs.Ytbeolkklnlljcaa
