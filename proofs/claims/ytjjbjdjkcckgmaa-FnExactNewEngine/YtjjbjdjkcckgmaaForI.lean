
/- LeafFor of the program, and the law. -/
import Derived.Test.YtjjbjdjkcckgmaaForW
import Derived.Test.YtjjbjdjkcckgmaaLvL
namespace Go.Proofs.Ytjjbjdjkcckgmaa
open Go.RowKit

theorem one_key {w : World} {o : Obj} {key : Int} {t : TypeId} : CellsAt ((w.alloc o).alloc (.cells #[.int .i64 key] t)) (some ⟨w.heap.size + 1, 0, none⟩) 1 (kts [key]) := by
  refine ⟨rfl, fun _ => ⟨_, _, rfl, fun i hi => ?_⟩⟩
  obtain rfl : i = 0 := by omega
  rw [show w.heap.size + 1 = (w.alloc o).heap.size by simp]
  exact cell_of_row _ _ _ _ _ _ (heap_alloc_new (w.alloc o) _)

set_option linter.unusedSimpArgs false in
set_option maxHeartbeats 800000 in
theorem implLeafFor_any (a : Option Addr) (n cap : Nat) (key : Int) (ls : List (List Ch.Row)) (w : World) (h : LvAt w a n ls) (hs : Ch.lvSize ls ≤ 1048576) :
    Calls Try.prog 36 #[.slice a n cap, .int .i64 key] w fun e w' => e = .returned (.agg #[.int .i64 (Ch.leafFor ls key).1, .int .i64 (Ch.leafFor ls key).2]) ∧ Below w.heap.size w w' := by
  have HL := h.len
  have b0 : ∀ t, Below w.heap.size w ((w.alloc (.cells #[.int .i64 0, .int .i64 0] 77)).alloc (.cells #[.int .i64 key] t)) := fun t => Below.alloc (Below.alloc (Below.refl _ w) (Nat.le_refl _) _) (by simp) _
  cases hc : (Ch.asked ls key != 0)
  · by_cases h0 : n = 0
    · rw [leafFor_none hc (by have := HL.out; omega)]
      subst h0
      go_enter Try.func36, Try.ntmps36
      go_wp2_with fail
      refine (implKeys_any a 0 cap ls _ 1 1 [key] _ (h.below (b0 _)) hs one_key (by omega)).mono ?_
      rintro e w1 ⟨rfl, b1⟩
      obtain ⟨cA, fA⟩ := bcell b1
      have x0 := cA w.heap.size 0 (by simp; omega)
      have x1 := cA w.heap.size 1 (by simp; omega)
      have f0 := fA w.heap.size 0 (by simp; omega)
      have f1 := fA w.heap.size 1 (by simp; omega)
      clear cA fA
      simp [go_sem] at x0 x1 f0 f1
      have hz := lt_of_cell x0
      have bE := (b0 _).trans (b1.mono (b0 _).size)
      rw [askedAll_one]
      go_wp2
      exact bodyPost_ret (v := .agg #[.int .i64 4, .int .i64 0]) (by simp [results, Try.results36, go_sem, x0, x1]) rfl ⟨rfl, (bE.setCell (p := ⟨w.heap.size, 0, none⟩) (Nat.le_refl _) _).setCell (p := ⟨w.heap.size, 1, none⟩) (Nat.le_refl _) _⟩
    · rw [leafFor_ok hc (by have := HL.out; omega)]
      have hg : ∀ k, k < n → (ls.getD k []).length ≠ 0 := fun k hk => (Ch.good_leaf (Ch.asked_good (by simpa using hc)).1 k (by have := HL.out; omega)).1
      have hn : n ≤ 1048576 := by unfold Ch.lvSize at hs; have := HL.out; omega
      have hn0 : ((n : Int) == 0) = false := by simpa using h0
      rw [← HL.out]
      go_enter Try.func36, Try.ntmps36
      go_wp2_with fail
      refine (implKeys_any a n cap ls _ 1 1 [key] _ (h.below (b0 _)) hs one_key (by omega)).mono ?_
      rintro e w1 ⟨rfl, b1⟩
      obtain ⟨cA, fA⟩ := bcell b1
      have x0 := cA w.heap.size 0 (by simp; omega)
      have x1 := cA w.heap.size 1 (by simp; omega)
      have f0 := fA w.heap.size 0 (by simp; omega)
      have f1 := fA w.heap.size 1 (by simp; omega)
      clear cA fA
      simp [go_sem] at x0 x1 f0 f1
      have hz := lt_of_cell x0
      have bE := (b0 _).trans (b1.mono (b0 _).size)
      rw [askedAll_one]
      generalize Ch.asked ls key = c at *
      go_wp2
      go_loopw [23] (fun i wr => ∃ k : Nat, k ≤ n ∧ i = .int .i64 k ∧ wr.cell? ⟨w.heap.size, 0, none⟩ = some (.int .i64 0) ∧ wr.cell? ⟨w.heap.size, 1, none⟩ = some (.int .i64 0) ∧ wr.frozen? ⟨w.heap.size, 0, none⟩ = false ∧ wr.frozen? ⟨w.heap.size, 1, none⟩ = false ∧ wr.cell? ⟨w1.heap.size, 0, none⟩ = some (.int .i64 0) ∧ wr.cell? ⟨w1.heap.size, 1, none⟩ = some (.int .i64 (Ch.forAt ls key k)) ∧ wr.frozen? ⟨w1.heap.size, 1, none⟩ = false ∧ Below w.heap.size w wr) (fun i _ => n - (intOf i).toNat)
      case atStart => exact ⟨0, Nat.zero_le _, rfl, by simp [go_sem, hz, x0], by simp [go_sem, hz, x1], by simp [go_sem, hz, f0], by simp [go_sem, hz, f1], by simp [go_sem], by simp [go_sem, Ch.forAt], by simp [go_sem], bE.alloc bE.size _⟩
      case round =>
        clear x0 x1 f0 f1
        obtain ⟨k, hk, rfl, x0, x1, f0, f1, y0, y1, g1, hB⟩ := hrel
        have hy := lt_of_cell y0
        have hx := lt_of_cell x0
        by_cases hlt : k < n
        · have HS := hid (Ch.lv_leaf hs k)
          have HY := hid (fun hle => Ch.forAt_yes (ls := ls) (key := key) (k := k) hle)
          have HN := hid (fun hle => Ch.forAt_no (ls := ls) (key := key) (k := k) hle)
          have hg0 := hg k hlt
          obtain ⟨b, off, ai, ni, ci, rfl, hcc, hr, hni⟩ := (h.below hB).leaf hlt
          have hbl := lt_of_cell hcc
          have HRl := hr.rlen
          have hni' : ni ≤ 1048576 := by have := HS.out; have := HRl.out; omega
          obtain ⟨m, rfl⟩ : ∃ m, ni = m + 1 := ⟨ni - 1, by have := HRl.out; omega⟩
          obtain ⟨b1, o1, rfl, q0, _, _⟩ := hr.row (k := 0) (by omega)
          have hbl1 := lt_of_cell q0
          simp only [Nat.zero_mul, Nat.add_zero] at q0
          have HFK : Hid (Ch.firstK (ls.getD k []) = ((ls.getD k []).getD 0 Ch.Row.zero).k) := rfl
          generalize ls.getD k [] = l at *
          generalize (l.getD 0 Ch.Row.zero).k = fk at *
          by_cases hle : fk ≤ key
          · go_wp2
            go_roundw
            case rel => exact ⟨k + 1, by omega, by go_num, by simp [go_sem, x0, hx, hz, Nat.ne_of_lt hz, Nat.ne_of_gt hz], by simp [go_sem, x1, hx, hz, Nat.ne_of_lt hz, Nat.ne_of_gt hz], by simp [go_sem, f0, hx, hz], by simp [go_sem, f1, hx, hz], by simp [go_sem, y0, hy], by rw [HY.out (by rw [HFK.out]; exact hle)]; simp [go_sem, y1, hy], by simp [go_sem, g1, hy], (hB.setCell (p := ⟨w1.heap.size, 1, none⟩) (by simp; omega) _).alloc (by simp; exact hB.size) _⟩
            case measure => simp [intOf]; omega
          · go_wp2
            go_roundw
            case rel => exact ⟨k + 1, by omega, by go_num, by simp [go_sem, x0, hx], by simp [go_sem, x1, hx], by simp [go_sem, f0, hx], by simp [go_sem, f1, hx], by simp [go_sem, y0, hy], by rw [HN.out (by rw [HFK.out]; exact hle)]; simp [go_sem, y1, hy], by simp [go_sem, g1, hy], hB.alloc hB.size _⟩
            case measure => simp [intOf]; omega
        · obtain rfl : k = n := by omega
          generalize hq : Ch.forAt ls key k = q at *
          go_wp2
          exact bodyPost_ret (v := .agg #[.int .i64 0, .int .i64 q]) (by simp [results, Try.results36, go_sem, x0, x1]) rfl ⟨by rw [hq], (hB.setCell (p := ⟨w.heap.size, 0, none⟩) (Nat.le_refl _) _).setCell (p := ⟨w.heap.size, 1, none⟩) (Nat.le_refl _) _⟩
  · rw [leafFor_code hc]
    go_enter Try.func36, Try.ntmps36
    go_wp2_with fail
    refine (implKeys_any a n cap ls _ 1 1 [key] _ (h.below (b0 _)) hs one_key (by omega)).mono ?_
    rintro e w1 ⟨rfl, b1⟩
    obtain ⟨cA, fA⟩ := bcell b1
    have x0 := cA w.heap.size 0 (by simp; omega)
    have x1 := cA w.heap.size 1 (by simp; omega)
    have f0 := fA w.heap.size 0 (by simp; omega)
    have f1 := fA w.heap.size 1 (by simp; omega)
    clear cA fA
    simp [go_sem] at x0 x1 f0 f1
    have hz := lt_of_cell x0
    have bE := (b0 _).trans (b1.mono (b0 _).size)
    rw [askedAll_one]
    generalize hq : Ch.asked ls key = c at *
    go_wp2
    exact bodyPost_ret (v := .agg #[.int .i64 c, .int .i64 0]) (by simp [results, Try.results36, go_sem, x0, x1]) rfl ⟨by rw [hq], (bE.setCell (p := ⟨w.heap.size, 0, none⟩) (Nat.le_refl _) _).setCell (p := ⟨w.heap.size, 1, none⟩) (Nat.le_refl _) _⟩
end Go.Proofs.Ytjjbjdjkcckgmaa
