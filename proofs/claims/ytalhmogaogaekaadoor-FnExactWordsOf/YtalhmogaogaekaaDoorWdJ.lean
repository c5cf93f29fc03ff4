/- WordsOf of the program: its walk. -/
import Derived.Test.YtalhmogaogaekaaDoorWdI
import Derived.Lib.SmallJoins
namespace Go.Proofs.YtalhmogaogaekaaDoor
open Go.RowKit Go.Shelf

theorem own_apartW {w : World} {base : Nat} {e : TypeId} {size : Nat} {v : Value} {n : Nat} {xs : List Value} (h : w.ownsRow base e size v n xs) {b : Nat} (hb : b < base) : v.ownBlock ≠ some b := by
  intro e
  have := (owns_lt h b e).1
  omega
theorem block_belowW {w w' : World} (hb : Below w.heap.size w w') {b : Nat} {o : Obj} (h : w.heap[b]? = some o) : w'.heap[b]? = some o :=
  (hb.block b (Array.getElem?_eq_some_iff.1 h).1).trans h
theorem block_grownW {w w' : World} {row : Option Nat} {b : Nat} {o : Obj} (hg : w.grownBy w' row) (h : w.heap[b]? = some o) (hne : row ≠ some b) : w'.heap[b]? = some o :=
  (hg.block b (Array.getElem?_eq_some_iff.1 h).1 (fun e => hne e.symm)).trans h
theorem new_str (w : World) (r : ByteArray) (t : TypeId) : CellsAt (w.alloc (.cells #[.string r] t)) (some ⟨w.heap.size, 0, none⟩) (1 * 1) (scells [r]) := by
  refine ⟨rfl, fun _ => ⟨w.heap.size, 0, rfl, fun i hi => ?_⟩⟩
  obtain rfl : i = 0 := by omega
  simp [go_sem, scells]

set_option linter.unusedSimpArgs false in
set_option maxRecDepth 20000 in
set_option maxHeartbeats 2000000 in
theorem implWords_any (s : ByteArray) (w : World) (hs : s.size ≤ 1048576) (m : Int) (hm : w.cell? ⟨Tryd.lays7_ren.g 2, 0, none⟩ = some (.int .i64 m)) :
    Calls Tryd.prog 10 #[.string s] w fun e w' => ∃ a' n c', e = .returned (.agg #[.int .i64 0, .slice a' n c']) ∧ n ≤ 1048577 ∧ w'.ownsRow w.heap.size 9 1 (.slice a' n c') n (scells (Ch.words s)) ∧ Below w.heap.size w w' := by
  obtain ⟨i0, hi0, hz0, hz1, hz2⟩ := info_parts Tryd.infoS
  have b0 : Below w.heap.size w ((w.alloc (.cells #[.int .i64 0, .slice none 0 0] 33)).alloc (.cells #[.int .i64 0, .slice none 0 0] 33)) := ((Below.refl _ _).alloc (Nat.le_refl _) _).alloc (by simp) _
  have hR0 : ((w.alloc (.cells #[.int .i64 0, .slice none 0 0] 33)).alloc (.cells #[.int .i64 0, .slice none 0 0] 33)).heap[w.heap.size]? = some (.cells #[.int .i64 0, .slice none 0 0] 33 (0, 0)) := (heap_old' (by simp)).trans (heap_alloc_new w _)
  have hX0 : ((w.alloc (.cells #[.int .i64 0, .slice none 0 0] 33)).alloc (.cells #[.int .i64 0, .slice none 0 0] 33)).heap[w.heap.size + 1]? = some (.cells #[.int .i64 0, .slice none 0 0] 33 (0, 0)) := by
    have := heap_alloc_new (w.alloc (.cells #[.int .i64 0, .slice none 0 0] 33)) (.cells #[.int .i64 0, .slice none 0 0] 33)
    rw [show (w.alloc (.cells #[.int .i64 0, .slice none 0 0] 33)).heap.size = w.heap.size + 1 by simp] at this
    exact this
  have hZ0 : ((w.alloc (.cells #[.int .i64 0, .slice none 0 0] 33)).alloc (.cells #[.int .i64 0, .slice none 0 0] 33)).heap.size = w.heap.size + 2 := by simp
  replace hZ0 := hid hZ0
  have kc := fun (w : World) (C : Array Value) (n c : Nat) => Lib.run_convert_bytes_const (P := Tryd.prog) w 58 5 C n c Tryd.underlying58 Tryd.underlying5
  go_enter Tryd.func10, Tryd.ntmps10
  go_wp2_with fail
  refine (copyOf_any s _ hs).mono ?_
  rintro e w1 ⟨rfl, hc1, hl1, b1⟩
  have b1' := b0.trans (b1.mono b0.size)
  have hR1 := block_belowW b1 hR0
  have hX1 := block_belowW b1 hX0
  have kb : Below w1.heap.size w1 (w1.alloc (.cells #[.int .u8 32] 5 (1, 2))) := (Below.refl _ _).alloc (Nat.le_refl _) _
  have hcb : (w1.alloc (.cells #[.int .u8 32] 5 (1, 2))).cell? ⟨w1.heap.size, 0, none⟩ = some (.int .u8 32) := by
    have h0 := heap_alloc_new w1 (.cells #[.int .u8 32] 5 (1, 2))
    unfold World.cell?
    rw [h0]
    rfl
  have hm1 := keep_cell kb (keep_cell b1 (keep_cell b0 hm))
  have hc1 := hc1.below kb
  rw [hZ0.out] at hc1
  go_wp2_with fail
  refine (split_any (w.heap.size + 2) w1.heap.size 1 s m _ hs hc1 hcb hm1).mono ?_
  rintro e w2 ⟨rfl, hS, hl2, b2⟩
  have b2' : Below w.heap.size w w2 := b1'.trans ((kb.trans (b2.mono kb.size)).mono b1'.size)
  have hR2 := block_belowW b2 (block_belowW kb hR1)
  have hX2 := block_belowW b2 (block_belowW kb hX1)
  have hsz2 : w.heap.size + 2 < w2.heap.size := by
    have := hZ0.out; have := hl1; have := kb.size; have := b2.size; omega
  have HL := Ch.pieces_len s
  have hgP : w.heap.size + 2 < (w1.alloc (.cells #[.int .u8 32] 5 (1, 2))).heap.size := by
    have := hZ0.out; have := kb.size; omega
  generalize (w1.alloc (.cells #[.int .u8 32] 5 (1, 2))).heap.size = gP at *
  obtain ⟨N, HN⟩ : ∃ N, Hid ((Ch.pieces s).length = N) := ⟨_, rfl⟩
  rw [HN.out] at HL
  rw [HN.out]
  clear hR1 hX1 hR0 hX0 b0 b1 b1' kb hcb hm1 hc1 kc b2 hm
  go_wp2
  go_loopw [12] (fun i wr => ∃ (k n : Nat) (a' : Option Addr) (c' : Nat), k ≤ N ∧ n ≤ k ∧ i = .int .i64 k ∧ wr.heap[w.heap.size]? = some (.cells #[.int .i64 0, .slice none 0 0] 33 (0, 0)) ∧ wr.heap[w.heap.size + 1]? = some (.cells #[.int .i64 0, .slice a' n c'] 33 (0, 0)) ∧ wr.ownsRow w2.heap.size 9 1 (.slice a' n c') n (scells (Ch.wordsL ((Ch.pieces s).take k))) ∧ w2.heap.size ≤ wr.heap.size ∧ SplitAt wr (w.heap.size + 2) gP s ∧ Below w.heap.size w wr) (fun i _ => N - (intOf i).toNat)
  case atStart => exact ⟨0, 0, none, 0, Nat.zero_le _, Nat.le_refl _, rfl, hR2, hX2, World.ownsRow_nil _ _ _ _, Nat.le_refl _, hS, b2'⟩
  case round =>
    clear hR2 hX2 hS b2'
    obtain ⟨k, n, a', c', hk, hnk, rfl, hR, hX, own, hsz, hS, hB⟩ := hrel
    obtain ⟨x0, x1, f0, f1⟩ := row2 hR
    obtain ⟨y0, y1, g0, g1⟩ := row2 hX
    by_cases hlt : k < N
    · have hkl : k < (Ch.pieces s).length := by have := HN.out; omega
      obtain ⟨ap, cp, hcell, hcv⟩ := hS.at hkl
      have HY := hid (Ch.wordsL_yes (Ch.pieces s) k ⟨#[]⟩ hkl)
      have HO := hid (Ch.wordsL_no (Ch.pieces s) k ⟨#[]⟩ hkl)
      have hgl := lt_of_cell hcell
      generalize (Ch.pieces s).getD k ⟨#[]⟩ = x at *
      generalize Ch.wordsL ((Ch.pieces s).take k) = zs at *
      have hsum : n + 1 ≤ 4194304 := by omega
      by_cases hx : 0 < x.size
      · replace HY := hid (HY.out hx)
        have hcv1 := hcv hx
        clear HO hcv
        have kQ : Below wr.heap.size wr (wr.alloc (.cells #[.string x] 9)) := (Below.refl _ _).alloc (Nat.le_refl _) _
        have own3 := owns_below own kQ
        have hX3 := block_belowW kQ hX
        have hR3 := block_belowW kQ hR
        have hS3 := hS.keep (kQ.block _ (by omega)) (kQ.block _ (by omega))
        have hC3 := new_str wr x 9
        have hb3 : w2.heap.size ≤ (wr.alloc (.cells #[.string x] 9)).heap.size := by simp; omega
        have b3 := hB.trans (kQ.mono hB.size)
        go_wp2_with (at_builtin; go_must (refine wpList_appX Tryd.underlying31 Tryd.underlying31 hi0 hz0 hz1 hz2 rfl (by omega) (by omega) (.tmp 20) (.tmp 23) ?_ ?_ w2.heap.size (.slice a' n c') n (scells zs) _ 1 1 (scells [x]) ?_ ?_ own3 hC3 (scells_one' [x]) hsum hb3 ?_; exact rfl; exact rfl; exact rfl; exact rfl; intro a5 c5 w5 own5 gr5 at5; have hX5 := block_grownW gr5 hX3 (own_apartW own3 (by omega)); have hR5 := block_grownW gr5 hR3 (own_apartW own3 (by omega)); obtain ⟨v0, v1, e0, e1⟩ := row2 hX5; have lv := lt_of_cell v0; go_frame))
        go_roundw
        case rel =>
          rw [← scells_append, ← HY.out] at own5
          have b5 := b3.grown gr5 b3.size (fun g hg => by have := (owns_lt own3 g hg).1; omega)
          have hS5 := hS3.keep (gr5.block _ (by simp; omega) (fun e => own_apartW own3 (by omega) e.symm)) (gr5.block _ (by simp; omega) (fun e => own_apartW own3 hl2 e.symm))
          refine ⟨k + 1, n + 1, a5, c5, by omega, by omega, by go_num, ?_, ?_, ?_, ?_, ?_, b5.setCell (p := ⟨w.heap.size + 1, 1, none⟩) (by show w.heap.size ≤ w.heap.size + 1; omega) _⟩
          · exact (Below.heap_setCell _ _ _ _ (by show w.heap.size ≠ w.heap.size + 1; omega)).trans hR5
          · have := Joins.block_setCell (i := 1) hX5 (.slice a5 (n + 1) c5)
            simpa using this
          · exact ownsRow_setCell_below own5 (by show w.heap.size + 1 < w2.heap.size; omega) _
          · have := gr5.size; simp at this ⊢; omega
          · exact hS5.keep (Below.heap_setCell _ _ _ _ (by show w.heap.size + 2 ≠ w.heap.size + 1; omega)) (Below.heap_setCell _ _ _ _ (by show gP ≠ w.heap.size + 1; omega))
        case measure => simp [intOf]; omega
      · replace HO := hid (HO.out hx)
        clear HY hcv
        go_wp2
        go_roundw
        case rel => exact ⟨k + 1, n, a', c', by omega, by omega, by go_num, hR, hX, by rw [HO.out]; exact own, hsz, hS, hB⟩
        case measure => simp [intOf]; omega
    · obtain rfl : k = N := by omega
      have HWF : Hid ((Ch.pieces s).take k = Ch.pieces s) := by have := HN.out; show _ = _; rw [← this]; exact List.take_length
      rw [HWF.out] at own
      go_wp2
      refine bodyPost_ret (v := .agg #[.int .i64 0, .slice a' n c']) (by simp [results, Tryd.results10, go_sem, x0, x1]) rfl ⟨a', n, c', rfl, by omega, ?_, ?_⟩
      · refine owns_base (base := w2.heap.size) (ownsRow_setCell_below (ownsRow_setCell_below own ?_ _) ?_ _) (by omega)
        · show w.heap.size < w2.heap.size; omega
        · show w.heap.size < w2.heap.size; omega
      · exact (hB.setCell (p := ⟨w.heap.size, 0, none⟩) (Nat.le_refl _) _).setCell (p := ⟨w.heap.size, 1, none⟩) (Nat.le_refl _) _
end Go.Proofs.YtalhmogaogaekaaDoor
