
/- IndexOf of the model. -/
import Derived.Test.YthfanfnbjldddaaGreatMz8
import Derived.Test.YthfanfnbjldddaaGreatIxP
import Derived.Test.YthfanfnbjldddaaGreatMz2
import Derived.Test.YthfanfnbjldddaaGreatMz9
namespace Go.Proofs.YthfanfnbjldddaaGreat
open Go.RowKit

theorem Ch.noGhost_240 {ls : List (List Ch.Row)} (hg : Ch.leavesFault ls = 0) : (Ch.noGhost ls.flatten).length ≤ 240 := Nat.le_trans (Ch.noGhost_len _) (Ch.flat_240 hg)
theorem Ch.map_len {rs : List Ch.Row} : (rs.map Ch.pairR).length = rs.length := by simp
theorem Ch.map_take (rs : List Ch.Row) (k : Nat) : (rs.take k).map Ch.pairR = (rs.map Ch.pairR).take k := by simp
theorem Ch.map_at {rs : List Ch.Row} {k : Nat} (h : k < rs.length) : (rs.map Ch.pairR).getD k Ch.Hold.zero = Ch.pairR (rs.getD k Ch.Row.zero) := by simp [List.getD, h]

set_option linter.unusedSimpArgs false in
set_option maxRecDepth 20000 in
set_option maxHeartbeats 4000000 in
theorem l9Of_any (a : Option Addr) (n cap : Nat) (ls : List (List Ch.Row)) (w : World) (h : LvAt w a n ls) (hs : Ch.lvSize ls ≤ 1048576) (hg : Ch.leavesFault ls = 0) :
    Calls Tryz.prog 25 #[.slice a n cap] w fun e w' => ∃ g' m c', e = .returned (.slice (some ⟨g', 0, none⟩) m c') ∧ m ≤ 240 ∧ w'.ownsRow w.heap.size 55 2 (.slice (some ⟨g', 0, none⟩) m c') m (hcells (Ch.ixOfL ls)) ∧ Below w.heap.size w w' := by
  have hgl : ∀ k, k < n → (ls.getD k []).length ≠ 0 := fun k hk => (Ch.good_leaf hg k (by have := h.len.out; omega)).1
  obtain ⟨m1, hml1⟩ : ∃ m, Hid (ls.flatten.length = m) := ⟨_, rfl⟩
  have SR := fun W hW => specRows_m a n cap ls W hW hs hgl m1 hml1
  have HND := hid (Ch.pairs_nodup hg)
  have HIX : Hid (Ch.ixOfL ls = Ch.sortE ((Ch.noGhost ls.flatten).map Ch.pairR)) := rfl
  have hF := hid (Ch.flat_240 hg)
  have hG := hid (Ch.noGhost_240 hg)
  have oE := own_empty w w.heap.size 55 2 (Nat.le_refl _)
  have kE : Below w.heap.size w (w.alloc (.cells #[] 55)) := (Below.refl _ _).alloc (Nat.le_refl _) _
  generalize Ch.ixOfL ls = ix at *
  generalize ls.flatten = F at *
  clear hg
  go_enter Tryz.func25, Tryz.ntmps25
  go_wp2_with fail
  refine (SR _ (h.below kE)).mono ?_
  rintro e w1 ⟨a1, c1, rfl, o1, b1⟩
  have o0 := owns_below oE b1
  have B1 := kE.trans (b1.mono (by simp))
  have hm1 : m1 ≤ 240 := by have := (owns_cells o1).rlen.out; have := hF.out; omega
  go_wp2_with fail
  refine (l8Map_any a1 m1 c1 F _ (owns_cells o1) hm1).mono ?_
  rintro e w2 ⟨a2, m2, c2, rfl, hm2, o2, b2⟩
  have o0 := owns_below o0 b2
  have B2 := B1.trans (b2.mono B1.size)
  have HL := (owns_cells o2).rlen
  generalize Ch.noGhost F = rs at *
  clear o1 b1 b2 oE kE SR
  go_wp2
  go_loopw [3, 5] (fun q i wr => ∃ (k m g c' : Nat), k ≤ m2 ∧ m ≤ k ∧ i = .int .i64 k ∧ q = .slice (some ⟨g, 0, none⟩) m c' ∧ wr.ownsRow w.heap.size 55 2 (.slice (some ⟨g, 0, none⟩) m c') m (hcells (Ch.sortE ((rs.map Ch.pairR).take k))) ∧ Below w2.heap.size w2 wr ∧ Below w.heap.size w wr) (fun _ i _ => m2 - (intOf i).toNat)
  case atStart => exact ⟨0, 0, _, _, Nat.zero_le _, Nat.le_refl _, rfl, rfl, o0, Below.refl _ _, B2⟩
  case round =>
    clear o0 B2
    obtain ⟨k, m, g, c', hk, hmk, rfl, rfl, own, hB2, hB⟩ := hrel
    by_cases hlt : k < m2
    · have hkl : k < rs.length := by have := HL.out; omega
      have HN := hid (Ch.sortE_next HND.out (k := k) (by rw [Ch.map_len]; exact hkl))
      rw [Ch.map_at hkl] at HN
      obtain ⟨b, off, rfl, q0, q1, q2⟩ := (owns_cells (owns_below o2 hB2)).row hlt
      have hbl := lt_of_cell q0
      generalize rs.getD k Ch.Row.zero = r at *
      obtain ⟨rk, rv, rg⟩ := r
      simp only [Ch.pairR] at q0 q1 q2 HN
      generalize Ch.sortE ((rs.map Ch.pairR).take k) = E at *
      have hml : m ≤ 1048576 := by have := hG.out; have := HL.out; omega
      have IP := fun W (o : W.ownsRow w.heap.size 55 2 (.slice (some ⟨g, 0, none⟩) m c') m (hcells E)) hz => l9Put_any w.heap.size g m c' E rv rk W o hml hz
      go_wp2_with fail
      refine wp_region_noPanic ?_
      refine wp_region_held_drew (S := fun W' => W'.cell? ⟨b, off + k * 3, none⟩ = some (.int .i64 rk) ∧ W'.cell? ⟨b, off + k * 3 + 1, none⟩ = some (.int .i64 rv) ∧ W'.ownsRow (w.heap.size) 55 2 (.slice (some ⟨g, 0, none⟩) m c') m (hcells E) ∧ Below w2.heap.size w2 W' ∧ Below w.heap.size w W') (by kernel_rfl) (⟨q0, q1, own, hB2.drew, hB.drew⟩) (fun hH => ?_)
      refine hTake (i := 0) (v := ?_) rfl (by kernel_rfl) (by kernel_rfl) (by kernel_rfl) (by rfl) ?_ hH ?_
      rotate_left
      · intro W hW; (try dsimp only at hW); go_simp <;> with_reducible rfl
      simp only [Act.put, List.setIfInBounds_toArray, List.set_cons_zero, List.set_cons_succ]
      refine hTake (i := 1) (v := ?_) rfl (by kernel_rfl) (by kernel_rfl) (by kernel_rfl) (by rfl) ?_ hH ?_
      rotate_left
      · intro W hW; (try dsimp only at hW); go_simp <;> with_reducible rfl
      simp only [Act.put, List.setIfInBounds_toArray, List.set_cons_zero, List.set_cons_succ]
      refine hTake (i := 2) (v := ?_) rfl (by kernel_rfl) (by kernel_rfl) (by kernel_rfl) (by rfl) ?_ hH ?_
      rotate_left
      · intro W hW; (try dsimp only at hW); go_simp <;> with_reducible rfl
      simp only [Act.put, List.setIfInBounds_toArray, List.set_cons_zero, List.set_cons_succ]
      refine hTake (i := 3) (v := ?_) rfl (by kernel_rfl) (by kernel_rfl) (by kernel_rfl) (by rfl) ?_ hH ?_
      rotate_left
      · intro W hW; (try dsimp only at hW); go_simp <;> with_reducible rfl
      simp only [Act.put, List.setIfInBounds_toArray, List.set_cons_zero, List.set_cons_succ]
      refine hTake (i := 4) (v := ?_) rfl (by kernel_rfl) (by kernel_rfl) (by kernel_rfl) (by rfl) ?_ hH ?_
      rotate_left
      · intro W hW; (try dsimp only at hW); go_simp <;> with_reducible rfl
      simp only [Act.put, List.setIfInBounds_toArray, List.set_cons_zero, List.set_cons_succ]
      refine hTake (i := 5) (v := ?_) rfl (by kernel_rfl) (by kernel_rfl) (by kernel_rfl) (by rfl) ?_ hH ?_
      rotate_left
      · intro W hW; (try dsimp only at hW); go_simp <;> with_reducible rfl
      simp only [Act.put, List.setIfInBounds_toArray, List.set_cons_zero, List.set_cons_succ]
      refine hTake (i := 6) (v := ?_) rfl (by kernel_rfl) (by kernel_rfl) (by kernel_rfl) (by rfl) ?_ hH ?_
      rotate_left
      · intro W hW; (try dsimp only at hW); go_simp <;> with_reducible rfl
      simp only [Act.put, List.setIfInBounds_toArray, List.set_cons_zero, List.set_cons_succ]
      refine hTake (i := 7) (v := ?_) rfl (by kernel_rfl) (by kernel_rfl) (by kernel_rfl) (by rfl) ?_ hH ?_
      rotate_left
      · intro W hW; (try dsimp only at hW); go_simp <;> with_reducible rfl
      simp only [Act.put, List.setIfInBounds_toArray, List.set_cons_zero, List.set_cons_succ]
      refine hTake (i := 8) (v := ?_) rfl (by kernel_rfl) (by kernel_rfl) (by kernel_rfl) (by rfl) ?_ hH ?_
      rotate_left
      · intro W hW; (try dsimp only at hW); go_simp <;> with_reducible rfl
      simp only [Act.put, List.setIfInBounds_toArray, List.set_cons_zero, List.set_cons_succ]
      refine hTake (i := 9) (v := ?_) rfl (by kernel_rfl) (by kernel_rfl) (by kernel_rfl) (by rfl) ?_ hH ?_
      rotate_left
      · intro W hW; (try dsimp only at hW); go_simp <;> with_reducible rfl
      simp only [Act.put, List.setIfInBounds_toArray, List.set_cons_zero, List.set_cons_succ]
      refine hTake (i := 10) (v := ?_) rfl (by kernel_rfl) (by kernel_rfl) (by kernel_rfl) (by rfl) ?_ hH ?_
      rotate_left
      · intro W hW; (try dsimp only at hW); go_simp <;> with_reducible rfl
      simp only [Act.put, List.setIfInBounds_toArray, List.set_cons_zero, List.set_cons_succ]
      refine hTake (i := 11) (v := ?_) rfl (by kernel_rfl) (by kernel_rfl) (by kernel_rfl) (by rfl) ?_ hH ?_
      rotate_left
      · intro W hW; (try dsimp only at hW); go_simp <;> with_reducible rfl
      simp only [Act.put, List.setIfInBounds_toArray, List.set_cons_zero, List.set_cons_succ]
      refine wpAnyH_ready (rs := [12]) (by kernel_rfl) (by simp) ?_
      refine AllReadyH.cons rfl (fun K hK => ?_) AllReadyH.nil
      go_simp
      refine (IP _ hH.2.2.1 hH.2.2.2.2.size).mono ?_
      rintro e w9 ⟨g9, n9, c9, rfl, own9, hn9, b9⟩
      refine hK.out _ _ ?_ (fun hH => ?_)
      · exact ⟨keep_cell b9 hH.1, keep_cell b9 hH.2.1, owns_below hH.2.2.1 b9, hH.2.2.2.1.trans (b9.mono hH.2.2.2.1.size), hH.2.2.2.2.trans (b9.mono hH.2.2.2.2.size)⟩
      clear hK K
      refine hTake (i := 13) (v := ?_) rfl (by kernel_rfl) (by kernel_rfl) (by kernel_rfl) (by rfl) ?_ hH ?_
      rotate_left
      · intro W hW; (try dsimp only at hW); go_simp <;> with_reducible rfl
      simp only [Act.put, List.setIfInBounds_toArray, List.set_cons_zero, List.set_cons_succ]
      refine wpAnyH_done (by kernel_rfl) ?_ _
      refine NoPanic.normal ?_
      have hB2' := hH.2.2.2.1
      have hB' := hH.2.2.2.2
      clear hH own hB hB2 q0 q1 q2 IP b9
      go_wp2
      go_roundw
      case rel => exact ⟨k + 1, n9, g9, c9, by omega, by omega, by go_num, rfl, by rw [← HN.out]; exact own9, hB2', hB'⟩
      case measure => simp [intOf]; omega
    · obtain rfl : k = m2 := by omega
      have HWF : Hid ((rs.map Ch.pairR).take k = rs.map Ch.pairR) := by have := HL.out; show _ = _; rw [this, ← Ch.map_len]; exact List.take_length
      rw [HWF.out, ← HIX.out] at own
      have hk2 : k ≤ 240 := by have := HL.out; have := hG.out; omega
      go_wp2
      go_ret
      exact ⟨g, m, c', rfl, by omega, own, hB⟩

set_option linter.unusedSimpArgs false in
set_option maxRecDepth 20000 in
set_option maxHeartbeats 2000000 in
theorem specIxOf_any (a : Option Addr) (n cap : Nat) (ls : List (List Ch.Row)) (w : World) (h : LvAt w a n ls) (hs : Ch.lvSize ls ≤ 1048576) :
    Calls Tryz.prog 8 #[.slice a n cap] w fun e w' => ∃ a' m c', e = .returned (.agg #[.int .i64 (Ch.ixOfR ls).1, .slice a' m c']) ∧ m ≤ 1048576 ∧ w'.ownsRow w.heap.size 55 2 (.slice a' m c') m (hcells (Ch.ixOfR ls).2) ∧ Below w.heap.size w w' := by
  have IA := fun W hW => specLv_any a n cap ls W hW hs
  have kA : ∀ o, Below w.heap.size w (w.alloc o) := fun o => (Below.refl _ _).alloc (Nat.le_refl _) o
  obtain ⟨c, HC⟩ : ∃ c, Hid (Ch.leavesFault ls = c) := ⟨_, rfl⟩
  rw [HC.out] at IA
  by_cases h0 : c = 0
  rotate_left
  · have hc : (c != 0) = true := by simpa using h0
    rw [Ch.ixOfR_code HC.out hc]
    clear HC h0
    go_enter Tryz.func8, Tryz.ntmps8
    go_wp2_with fail
    refine (IA _ (h.below (kA _))).mono ?_
    rintro e w1 ⟨rfl, b1⟩
    have hR := block_below b1 (heap_alloc_new w _)
    have b1 := below_box b1
    have lz := (Array.getElem?_eq_some_iff.1 hR).1
    obtain ⟨x0, x1, f0, f1⟩ := row2 hR
    go_wp2
    exact bodyPost_ret (v := .agg #[.int .i64 c, .slice none 0 0]) (by simp [results, Tryz.results8, go_sem, x0, x1]) rfl ⟨none, 0, 0, rfl, by omega, World.ownsRow_nil _ _ _ _, (b1.setCell (p := ⟨w.heap.size, 0, none⟩) (Nat.le_refl _) _).setCell (p := ⟨w.heap.size, 1, none⟩) (Nat.le_refl _) _⟩
  subst h0
  rw [Ch.ixOfR_ok HC.out]
  have IO := fun W hW => l9Of_any a n cap ls W hW hs HC.out
  clear HC
  go_enter Tryz.func8, Tryz.ntmps8
  go_wp2_with fail
  refine (IA _ (h.below (kA _))).mono ?_
  rintro e w1 ⟨rfl, b1⟩
  have hR := block_below b1 (heap_alloc_new w _)
  have b1 := below_box b1
  have hl1 := (Array.getElem?_eq_some_iff.1 hR).1
  go_wp2_with fail
  refine (IO _ (h.below b1)).mono ?_
  rintro e w2 ⟨g2, m2, c2, rfl, hm2, o2, b2⟩
  have hR2 := block_below b2 hR
  have lz := (Array.getElem?_eq_some_iff.1 hR2).1
  obtain ⟨x0, x1, f0, f1⟩ := row2 hR2
  have bE := b1.trans (b2.mono b1.size)
  go_wp2
  refine bodyPost_ret (v := .agg #[.int .i64 0, .slice (some ⟨g2, 0, none⟩) m2 c2]) (by simp [results, Tryz.results8, go_sem, x0, x1]) rfl ⟨_, m2, c2, rfl, by omega, ?_, ?_⟩
  · refine owns_base (base := w1.heap.size) (ownsRow_setCell_below (ownsRow_setCell_below o2 ?_ _) ?_ _) (by omega)
    · show w.heap.size < w1.heap.size; omega
    · show w.heap.size < w1.heap.size; omega
  · exact (bE.setCell (p := ⟨w.heap.size, 0, none⟩) (Nat.le_refl _) _).setCell (p := ⟨w.heap.size, 1, none⟩) (Nat.le_refl _) _
end Go.Proofs.YthfanfnbjldddaaGreat
