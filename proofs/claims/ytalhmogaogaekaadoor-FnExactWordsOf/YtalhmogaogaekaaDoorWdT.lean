/- WordsOf of the model: the words among the pieces. -/
import Derived.Test.YtalhmogaogaekaaDoorWdS
namespace Go.Proofs.YtalhmogaogaekaaDoor
open Go.RowKit

theorem empty_no {x : ByteArray} (h : 0 < x.size) : x.toList.isEmpty = false := by
  rw [Lib.toList_data]
  have : 0 < x.data.toList.length := by rw [Array.length_toList]; exact h
  cases hl : x.data.toList with
  | nil => rw [hl] at this; simp at this
  | cons a l => rfl
theorem empty_yes {x : ByteArray} (h : ¬ 0 < x.size) : x.toList.isEmpty = true := by
  rw [Lib.toList_data]
  have : x.data.toList.length = 0 := by rw [Array.length_toList]; have : x.data.size = x.size := rfl; omega
  rw [List.length_eq_zero_iff.1 this]
  rfl

set_option linter.unusedSimpArgs false in
set_option maxRecDepth 20000 in
set_option maxHeartbeats 2000000 in
theorem specWordsL_any (s : ByteArray) (w : World) (hs : s.size ≤ 1048576) :
    Calls Tryd.prog 24 #[.string s] w fun e w' => ∃ a' n c', e = .returned (.slice a' n c') ∧ n ≤ 1048577 ∧ w'.ownsRow w.heap.size 9 1 (.slice a' n c') n (scells (Ch.words s)) ∧ Below w.heap.size w w' := by
  obtain ⟨i0, hi0, hz0, hz1, hz2⟩ := info_parts Tryd.infoS
  have own0 := own_emptyS w w.heap.size 9 1 (Nat.le_refl _)
  have bb0 : Below w.heap.size w (w.alloc (.cells #[] 9)) := (Below.refl _ _).alloc (Nat.le_refl _) _
  have SC := fun W => specCut_any s W hs
  generalize hP : Ch.pieces s = P at *
  replace hP := hid hP
  have HPW : Hid (Ch.words s = Ch.wordsL P) := by show _ = _; unfold Ch.words; rw [hP.out]
  rw [HPW.out]
  go_enter Tryd.func24, Tryd.ntmps24
  go_wp2_with fail
  refine (SC _).mono ?_
  rintro e w1 ⟨a1, N, c1, rfl, hN, o1, b1⟩
  have b1' := bb0.trans (b1.mono bb0.size)
  have own1 := owns_below own0 b1
  have HL := (owns_cells o1).slen
  have L1 := owns_lt o1
  have hz1s : w.heap.size < (w.alloc (.cells #[] 9)).heap.size := by simp
  have hz2s := b1.size
  generalize (w.alloc (.cells #[] 9)).heap.size = B1 at *
  go_wp2
  go_loopw [3, 5] (fun v i wr => ∃ (k n : Nat) (a' : Option Addr) (c' : Nat), k ≤ N ∧ n ≤ k ∧ v = .slice a' n c' ∧ i = .int .i64 k ∧ wr.ownsRow w.heap.size 9 1 (.slice a' n c') n (scells (Ch.wordsL (P.take k))) ∧ (∀ g, (Value.slice a' n c').ownBlock = some g → g < B1 ∨ w1.heap.size ≤ g) ∧ wr.ownsRow B1 9 1 (.slice a1 N c1) N (scells P) ∧ w1.heap.size ≤ wr.heap.size ∧ Below w.heap.size w wr) (fun _ i _ => N - (intOf i).toNat)
  case atStart =>
    refine ⟨0, 0, some ⟨w.heap.size, 0, none⟩, 0, Nat.zero_le _, Nat.le_refl _, rfl, rfl, own1, ?_, o1, Nat.le_refl _, b1'⟩
    intro g hg
    left
    have : w.heap.size = g := by simpa [Value.ownBlock] using hg
    omega
  case round =>
    clear own1 own0 o1 b1' bb0
    obtain ⟨k, n, a', c', hk, hnk, rfl, rfl, own, hap, oP, hsz1, hB⟩ := hrel
    by_cases hlt : k < N
    · have hkl : k < P.length := by have := HL.out; omega
      obtain ⟨b, off, rfl, hc0⟩ := (owns_cells oP).str hlt
      have HY := hid (Ch.wordsL_yes P k ⟨#[]⟩ hkl)
      have HO := hid (Ch.wordsL_no P k ⟨#[]⟩ hkl)
      have hbl := lt_of_cell hc0
      generalize P.getD k ⟨#[]⟩ = x at *
      generalize Ch.wordsL (P.take k) = zs at *
      by_cases hx : 0 < x.size
      · have hE := empty_no hx
        replace HY := hid (HY.out hx)
        clear HO
        have kQ : Below wr.heap.size wr (wr.alloc (.cells #[.string x] 9)) := (Below.refl _ _).alloc (Nat.le_refl _) _
        have own3 := owns_below own kQ
        have oP3 := owns_below oP kQ
        have hC3 := new_strS wr x 9
        have hb3 : w.heap.size ≤ (wr.alloc (.cells #[.string x] 9)).heap.size := by have := hB.size; simp; omega
        have b3 := hB.trans (kQ.mono hB.size)
        have hsum : n + 1 ≤ 4194304 := by omega
        go_wp2_with (at_builtin; go_must (refine wpList_appX Tryd.underlying31 Tryd.underlying31 hi0 hz0 hz1 hz2 rfl (by omega) (by omega) (.tmp 20) (.tmp 25) ?_ ?_ w.heap.size (.slice a' n c') n (scells zs) _ 1 1 (scells [x]) ?_ ?_ own3 hC3 (scells_one' [x]) hsum hb3 ?_; exact rfl; exact rfl; exact rfl; exact rfl; intro a5 c5 w5 own5 gr5 at5; go_frame))
        go_roundw
        case rel =>
          have b5 := b3.grown gr5 b3.size (fun g hg => by have := (owns_lt own3 g hg).1; omega)
          rw [← scells_append, ← HY.out] at own5
          have oP5 := owns_grown oP3 gr5 (fun g hg hk => by have := L1 g hg; have := hap g hk; omega)
          refine ⟨k + 1, n + 1, a5, c5, by omega, by omega, rfl, by go_num, own5, ?_, oP5, ?_, b5⟩
          · intro g hg
            rcases at5 g hg with h | h
            · exact hap g h
            · right; simp at h; omega
          · have := gr5.size; simp at this; omega
        case measure => simp [intOf]; omega
      · have hE := empty_yes hx
        replace HO := hid (HO.out hx)
        clear HY
        go_wp2
        go_roundw
        case rel => exact ⟨k + 1, n, a', c', by omega, by omega, rfl, by go_num, by rw [HO.out]; exact own, hap, oP, hsz1, hB⟩
        case measure => simp [intOf]; omega
    · obtain rfl : k = N := by omega
      have HWF : Hid (P.take k = P) := by have := HL.out; show _ = _; rw [this]; exact List.take_length
      rw [HWF.out] at own
      go_wp2
      go_ret
      exact ⟨a', n, c', rfl, by omega, own, hB⟩

set_option linter.unusedSimpArgs false in
set_option maxHeartbeats 1000000 in
theorem specWords_any (s : ByteArray) (w : World) (hs : s.size ≤ 1048576) :
    Calls Tryd.prog 9 #[.string s] w fun e w' => ∃ a' n c', e = .returned (.agg #[.int .i64 0, .slice a' n c']) ∧ n ≤ 1048577 ∧ w'.ownsRow w.heap.size 9 1 (.slice a' n c') n (scells (Ch.words s)) ∧ Below w.heap.size w w' := by
  have kA : ∀ o, Below w.heap.size w (w.alloc o) := fun o => (Below.refl _ _).alloc (Nat.le_refl _) o
  go_enter Tryd.func9, Tryd.ntmps9
  go_wp2_with fail
  refine (specWordsL_any s _ hs).mono ?_
  rintro e w1 ⟨a1, n, c1, rfl, hn, o1, b1⟩
  have hR : w1.heap[w.heap.size]? = some (.cells #[.int .i64 0, .slice none 0 0] 33 (0, 0)) := (b1.block _ (by simp)).trans (heap_alloc_new w _)
  obtain ⟨x0, x1, f0, f1⟩ := row2 hR
  have b1 := below_box b1
  have lz : w.heap.size < w1.heap.size := lt_of_cell x0
  go_wp2
  refine bodyPost_ret (v := .agg #[.int .i64 0, .slice a1 n c1]) (by simp [results, Tryd.results9, go_sem, x0, x1]) rfl ⟨a1, n, c1, rfl, by omega, ?_, ?_⟩
  · refine owns_base (base := w.heap.size + 1) (ownsRow_setCell_below (ownsRow_setCell_below (by simpa using o1) ?_ _) ?_ _) (by omega)
    · show w.heap.size < w.heap.size + 1; omega
    · show w.heap.size < w.heap.size + 1; omega
  · exact (b1.setCell (p := ⟨w.heap.size, 0, none⟩) (Nat.le_refl _) _).setCell (p := ⟨w.heap.size, 1, none⟩) (Nat.le_refl _) _
end Go.Proofs.YtalhmogaogaekaaDoor
