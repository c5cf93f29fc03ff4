
/- ScanRows of the program. -/
import Derived.Test.YthfanfnbjldddaaGreatScanW
namespace Go.Proofs.YthfanfnbjldddaaGreat
open Go.RowKit

theorem two_keys {w : World} {o : Obj} {k1 k2 : Int} {t : TypeId} : CellsAt ((w.alloc o).alloc (.cells #[.int .i64 k1, .int .i64 k2] t)) (some ⟨w.heap.size + 1, 0, none⟩) 2 (kts [k1, k2]) := by
  refine ⟨rfl, fun _ => ⟨_, _, rfl, fun i hi => ?_⟩⟩
  rw [show w.heap.size + 1 = (w.alloc o).heap.size by simp, Nat.zero_add]
  have := cell_of_row ((w.alloc o).alloc (.cells #[.int .i64 k1, .int .i64 k2] t)) _ i _ _ _ (heap_alloc_new (w.alloc o) _)
  rw [this]
  simp [kts]
theorem askedAll_two (ls : List (List Ch.Row)) (lo hi : Int) : Ch.askedAll ls [lo, hi] = (Ch.scanR ls lo hi).1 := by
  unfold Ch.askedAll Ch.scanR
  by_cases h : (Ch.leavesFault ls != 0) = true
  · rw [if_pos h, if_pos h]
  · rw [if_neg h, if_neg h]
    simp only [List.all_cons, List.all_nil, Bool.and_true]
    split <;> rfl
theorem scanR_nil {ls : List (List Ch.Row)} {lo hi : Int} (h : ((Ch.scanR ls lo hi).1 != 0) = true) : Ch.scanR ls lo hi = ((Ch.scanR ls lo hi).1, []) := by
  unfold Ch.scanR at *
  by_cases h1 : (Ch.leavesFault ls != 0) = true
  · rw [if_pos h1]
  · rw [if_neg h1] at h ⊢
    by_cases h2 : (Ch.inB lo 0 99 && Ch.inB hi 0 99) = true
    · rw [if_pos h2] at h; simp at h
    · rw [if_neg h2]
theorem scanR_fine {ls : List (List Ch.Row)} {lo hi : Int} (h : ((Ch.scanR ls lo hi).1 != 0) = false) : Ch.leavesFault ls = 0 ∧ Ch.scanR ls lo hi = (0, Ch.scan lo hi ls.flatten) := by
  unfold Ch.scanR at *
  by_cases h1 : (Ch.leavesFault ls != 0) = true
  · rw [if_pos h1] at h; rw [h1] at h; cases h
  · rw [if_neg h1] at h ⊢
    by_cases h2 : (Ch.inB lo 0 99 && Ch.inB hi 0 99) = true
    · rw [if_pos h2]; exact ⟨by simpa using h1, rfl⟩
    · rw [if_neg h2] at h; simp at h

theorem cells_set {w : World} {a : Option Addr} {m : Nat} {xs : List Value} (h : CellsAt w a m xs) {p o : Nat} {v : Value} (hne : ∀ b off, a = some ⟨b, off, none⟩ → b ≠ p) : CellsAt (w.setCell ⟨p, o, none⟩ v) a m xs := by
  refine ⟨h.1, fun hm => ?_⟩
  obtain ⟨b, off, ha, hc⟩ := h.2 hm
  refine ⟨b, off, ha, fun i hi => ?_⟩
  rw [← hc i hi]
  exact World.cell?_setCell_other _ _ _ _ (fun he => hne b off ha (by simp at he; omega))

set_option linter.unusedSimpArgs false in
set_option maxHeartbeats 4000000 in
theorem implScanRows_any (a : Option Addr) (n cap : Nat) (lo hi : Int) (ls : List (List Ch.Row)) (w : World) (h : LvAt w a n ls) (hs : Ch.lvSize ls ≤ 1048576) :
    Calls Tryz.prog 19 #[.slice a n cap, .int .i64 lo, .int .i64 hi] w fun e w' => ∃ a' m c', e = .returned (.agg #[.int .i64 (Ch.scanR ls lo hi).1, .slice a' m c']) ∧ m ≤ 1048576 ∧ w'.ownsRow w.heap.size 53 3 (.slice a' m c') m (rcells (Ch.scanR ls lo hi).2) ∧ Below w.heap.size w w' := by
  have HL := h.len
  have b0 : ∀ t, Below w.heap.size w ((w.alloc (.cells #[.int .i64 0, .slice none 0 0] 50)).alloc (.cells #[.int .i64 lo, .int .i64 hi] t)) := fun t => Below.alloc (Below.alloc (Below.refl _ w) (Nat.le_refl _) _) (by simp) _
  cases hc : ((Ch.scanR ls lo hi).1 != 0)
  · obtain ⟨h0, hR⟩ := scanR_fine hc
    have HFl := hid (Ch.flat_small hs ls.length)
    have RI := fun W hW => implRowsOf_any a n cap ls W hW hs
    rw [Ch.rowsR_ok h0] at RI
    simp only at RI
    rw [hR]
    go_enter Tryz.func19, Tryz.ntmps19
    go_wp2_with fail
    refine (implKeys_any a n cap ls _ 2 2 [lo, hi] _ (h.below (b0 _)) hs two_keys (by omega)).mono ?_
    rintro e w1 ⟨rfl, b1⟩
    obtain ⟨cA, fA⟩ := bcell b1
    have x0 := cA w.heap.size 0 (by simp; omega)
    have x1 := cA w.heap.size 1 (by simp; omega)
    have f0 := fA w.heap.size 0 (by simp; omega)
    have f1 := fA w.heap.size 1 (by simp; omega)
    clear cA fA
    simp [go_sem] at x0 x1 f0 f1
    have hz := lt_of_cell x0
    have bE := (b0 _).trans (b1.mono (b0 _).size)
    rw [askedAll_two]
    rw [hR]
    go_wp2_with fail
    refine (RI _ (h.below (bE.alloc bE.size _))).mono ?_
    rintro e w2 ⟨a2, nf, c2, rfl, hnf, own2, b2⟩
    have y0 := box_cell b2 0
    have y1 := box_cell b2 1
    have g1 := box_froz b2 1
    simp at y0 y1
    have b2w := below_box b2
    have hy := lt_of_cell y0
    have b2' := bE.trans (b2w.mono bE.size)
    replace x0 := keep_cell b2w x0
    replace x1 := keep_cell b2w x1
    replace f0 := ((bcell b2w).2 w.heap.size 0 hz).trans f0
    replace f1 := ((bcell b2w).2 w.heap.size 1 hz).trans f1
    have L2 : ∀ b off, a2 = some ⟨b, off, none⟩ → w1.heap.size < b ∧ b < w2.heap.size := by
      intro b off hb
      subst hb
      rcases own2.2 with ⟨hv, _⟩ | ⟨g, cp, cur, hv, _⟩
      · simp at hv
      · have := owns_lt own2 g (by rw [hv]; rfl)
        simp only [Value.slice.injEq, Option.some.injEq, Addr.mk.injEq] at hv
        obtain ⟨⟨rfl, _⟩, _⟩ := hv
        simp at this
        omega
    have C2 := owns_cells own2
    have HN := C2.rlen
    generalize hF : ls.flatten = F at *
    clear own2 RI b1 b2 b2w hR hc h0 HFl
    have hfd : ∀ W, (Instr.field 50 (.agg #[.int .i64 0, .slice a2 nf c2]) 1).run Tryz.prog W = .ok (.slice a2 nf c2) W := fun _ => by kernel_rfl
    go_wp2
    go_loopw [24] (fun i wr => ∃ (k m : Nat) (a' : Option Addr) (c' : Nat), k ≤ nf ∧ m ≤ k ∧ i = .int .i64 k ∧ wr.cell? ⟨w.heap.size, 0, none⟩ = some (.int .i64 0) ∧ wr.cell? ⟨w.heap.size, 1, none⟩ = some (.slice none 0 0) ∧ wr.frozen? ⟨w.heap.size, 0, none⟩ = false ∧ wr.frozen? ⟨w.heap.size, 1, none⟩ = false ∧ wr.cell? ⟨w1.heap.size, 0, none⟩ = some (.int .i64 0) ∧ wr.cell? ⟨w1.heap.size, 1, none⟩ = some (.slice a' m c') ∧ wr.frozen? ⟨w1.heap.size, 1, none⟩ = false ∧ wr.ownsRow w2.heap.size 53 3 (.slice a' m c') m (rcells (Ch.scan lo hi (F.take k))) ∧ CellsAt wr a2 (nf * 3) (rcells F) ∧ w2.heap.size ≤ wr.heap.size ∧ Below w.heap.size w wr) (fun i _ => nf - (intOf i).toNat)
    case atStart => exact ⟨0, 0, none, 0, Nat.zero_le _, Nat.le_refl _, rfl, x0, x1, f0, f1, y0, y1, g1, by simpa [rcells, Ch.scan] using World.ownsRow_nil _ _ _ _, C2, Nat.le_refl _, b2'⟩
    case round =>
      clear x0 x1 f0 f1 y0 y1 g1
      obtain ⟨k, m, a', c', hk, hmk, rfl, x0, x1, f0, f1, y0, y1, g1, own, C, hsz, hB⟩ := hrel
      have hy' := hy
      have hx := lt_of_cell x0
      have hy := lt_of_cell y0
      by_cases hlt : k < nf
      · obtain ⟨b, off, rfl, hc0, hc1, hc2⟩ := C.row hlt
        have hLb := L2 b off rfl
        have hbl := lt_of_cell hc0
        have HY := hid (fun hin => Ch.scan_yes (lo := lo) (hi := hi) (rs := F) (k := k) (by have := HN.out; omega) hin)
        have HNo := hid (fun hin => Ch.scan_no (lo := lo) (hi := hi) (rs := F) (k := k) (by have := HN.out; omega) hin)
        generalize F.getD k Ch.Row.zero = r at *
        have hsum : m + 1 ≤ 2097152 := by omega
        generalize Ch.scan lo hi (F.take k) = S at *
        obtain ⟨rk, rv, rg⟩ := r
        simp only [Ch.inScan] at hc0 hc1 hc2 HY HNo
        have bA : ∀ o, Below wr.heap.size wr (wr.alloc o) := fun o => (Below.refl _ _).alloc (Nat.le_refl _) _
        have bAA : ∀ o o', Below wr.heap.size wr ((wr.alloc o).alloc o') := fun o o' => (bA o).alloc (by simp) _
        by_cases hlo : lo ≤ rk
        · by_cases hhi : rk ≤ hi
          · cases rg
            · go_wp2_with (at_builtin; go_must (refine wpList_appRs (.tmp 44) (.tmp 46) w2.heap.size (.slice a' m c') m S 1 [⟨rk, rv, false⟩] hsum ?_ ?_ ?_ ?_ ?_ ?_ ?_; exact rfl; exact rfl; exact rfl; exact ⟨_, _, rfl, new_row (r := ⟨rk, rv, false⟩) (by simp)⟩; exact owns_below own (bAA _ _); (focus (simp; omega)); intro a3 c3 w3 own3 b3; have x0 := (b3.cell (p := ⟨w.heap.size, 0, none⟩) (by simp; omega)).trans (keep_cell (bAA _ _) x0); have x1 := (b3.cell (p := ⟨w.heap.size, 1, none⟩) (by simp; omega)).trans (keep_cell (bAA _ _) x1); have y0 := (b3.cell (p := ⟨w1.heap.size, 0, none⟩) (by simp; omega)).trans (keep_cell (bAA _ _) y0); have y1 := (b3.cell (p := ⟨w1.heap.size, 1, none⟩) (by simp; omega)).trans (keep_cell (bAA _ _) y1); have f0 := (b3.frozen (p := ⟨w.heap.size, 0, none⟩) (by simp; omega)).trans (((bcell (bAA _ _)).2 _ _ hx).trans f0); have f1 := (b3.frozen (p := ⟨w.heap.size, 1, none⟩) (by simp; omega)).trans (((bcell (bAA _ _)).2 _ _ hx).trans f1); have g1 := (b3.frozen (p := ⟨w1.heap.size, 1, none⟩) (by simp; omega)).trans (((bcell (bAA _ _)).2 _ _ hy).trans g1)))
              go_roundw
              case rel =>
                refine ⟨k + 1, m + 1, a3, c3, by omega, by omega, by go_num, by simp [go_sem, x0, Nat.ne_of_lt hz], by simp [go_sem, x1, Nat.ne_of_lt hz], by simp [go_sem, f0], by simp [go_sem, f1], by simp [go_sem, y0], by simp [go_sem, y1], by simp [go_sem, g1], by rw [HY.out (by simp [Ch.inB, hlo, hhi])]; exact ownsRow_setCell_below (a := ⟨w1.heap.size, 1, none⟩) own3 (by simp; omega) _, ?_, ?_, ?_⟩
                · refine cells_set ?_ (fun b' off' hb' => by simp only [Option.some.injEq, Addr.mk.injEq, and_true] at hb'; omega)
                  refine ⟨C.1, fun hm => ?_⟩
                  obtain ⟨b', off', hb', hcc⟩ := (C.below (bAA _ _)).2 hm
                  simp only [Option.some.injEq, Addr.mk.injEq, and_true] at hb'
                  obtain ⟨rfl, rfl⟩ := hb'
                  exact ⟨b, off, rfl, fun i hi => (b3.cell (p := ⟨b, off + i, none⟩) hLb.2).trans (hcc i hi)⟩
                · have := b3.size; simp at this ⊢; omega
                · exact (((hB.alloc hB.size _).alloc (by simp; omega) _).trans (b3.mono (by omega))).setCell (p := ⟨w1.heap.size, 1, none⟩) (by simp; omega) _
              case measure => simp [intOf]; omega
            · go_wp2
              go_roundw
              case rel => exact ⟨k + 1, m, a', c', by omega, by omega, by go_num, by simp [go_sem, x0, hx], by simp [go_sem, x1, hx], by simp [go_sem, f0, hx], by simp [go_sem, f1, hx], by simp [go_sem, y0, hy], by simp [go_sem, y1, hy], by simp [go_sem, g1, hy], by rw [HNo.out (by simp [Ch.inB, hlo, hhi])]; exact owns_below own (bA _), C.below (bA _), by simp; omega, hB.alloc hB.size _⟩
              case measure => simp [intOf]; omega
          · go_wp2
            go_roundw
            case rel => exact ⟨k + 1, m, a', c', by omega, by omega, by go_num, by simp [go_sem, x0, hx], by simp [go_sem, x1, hx], by simp [go_sem, f0, hx], by simp [go_sem, f1, hx], by simp [go_sem, y0, hy], by simp [go_sem, y1, hy], by simp [go_sem, g1, hy], by rw [HNo.out (by simp [Ch.inB, hlo, hhi])]; exact owns_below own (bA _), C.below (bA _), by simp; omega, hB.alloc hB.size _⟩
            case measure => simp [intOf]; omega
        · go_wp2
          go_roundw
          case rel => exact ⟨k + 1, m, a', c', by omega, by omega, by go_num, by simp [go_sem, x0, hx], by simp [go_sem, x1, hx], by simp [go_sem, f0, hx], by simp [go_sem, f1, hx], by simp [go_sem, y0, hy], by simp [go_sem, y1, hy], by simp [go_sem, g1, hy], by rw [HNo.out (by simp [Ch.inB, hlo])]; exact owns_below own (bA _), C.below (bA _), by simp; omega, hB.alloc hB.size _⟩
          case measure => simp [intOf]; omega
      · obtain rfl : k = nf := by omega
        go_wp2
        have e2 := HN.out
        rw [List.take_of_length_le (by omega)] at own
        refine bodyPost_ret (v := .agg #[.int .i64 0, .slice a' m c']) (by simp [results, Tryz.results19, go_sem, x0, x1]) rfl ⟨a', m, c', rfl, by omega, ?_, ?_⟩
        · rw [hF]
          exact owns_base (ownsRow_setCell_below (a := ⟨w.heap.size, 1, none⟩) (ownsRow_setCell_below (a := ⟨w.heap.size, 0, none⟩) own (by simp; omega) _) (by simp; omega) _) (by omega)
        · exact (hB.setCell (p := ⟨w.heap.size, 0, none⟩) (Nat.le_refl _) _).setCell (p := ⟨w.heap.size, 1, none⟩) (Nat.le_refl _) _
  · rw [scanR_nil hc]
    go_enter Tryz.func19, Tryz.ntmps19
    go_wp2_with fail
    refine (implKeys_any a n cap ls _ 2 2 [lo, hi] _ (h.below (b0 _)) hs two_keys (by omega)).mono ?_
    rintro e w1 ⟨rfl, b1⟩
    obtain ⟨cA, fA⟩ := bcell b1
    have x0 := cA w.heap.size 0 (by simp; omega)
    have x1 := cA w.heap.size 1 (by simp; omega)
    have f0 := fA w.heap.size 0 (by simp; omega)
    have f1 := fA w.heap.size 1 (by simp; omega)
    clear cA fA
    simp [go_sem] at x0 x1 f0 f1
    have hz := lt_of_cell x0
    have bE := (b0 _).trans (b1.mono (b0 _).size)
    rw [askedAll_two]
    generalize hq : (Ch.scanR ls lo hi).1 = c at *
    go_wp2
    exact bodyPost_ret (v := .agg #[.int .i64 c, .slice none 0 0]) (by simp [results, Tryz.results19, go_sem, x0, x1]) rfl ⟨none, 0, 0, by rw [hq], by omega, World.ownsRow_nil _ _ _ _, (bE.setCell (p := ⟨w.heap.size, 0, none⟩) (Nat.le_refl _) _).setCell (p := ⟨w.heap.size, 1, none⟩) (Nat.le_refl _) _⟩

end Go.Proofs.YthfanfnbjldddaaGreat
