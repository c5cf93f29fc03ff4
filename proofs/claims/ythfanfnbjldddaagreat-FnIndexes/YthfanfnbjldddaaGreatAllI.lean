
/- RowsOf of the model and of the program. -/
import Derived.Test.YthfanfnbjldddaaGreatAllW
namespace Go.Proofs.YthfanfnbjldddaaGreat
open Go.RowKit

/-- What RowsOf answers. -/
def Ch.rowsR (ls : List (List Ch.Row)) : Int × List Ch.Row := if leavesFault ls = 0 then (0, ls.flatten) else (leavesFault ls, [])
theorem Ch.rowsR_ok {ls : List (List Ch.Row)} (h : leavesFault ls = 0) : rowsR ls = (0, ls.flatten) := by rw [rowsR, if_pos h]
theorem Ch.rowsR_no {ls : List (List Ch.Row)} (h : (leavesFault ls != 0) = true) : rowsR ls = (leavesFault ls, []) := by rw [rowsR, if_neg (by simpa using h)]
theorem Ch.good_at {ls : List (List Ch.Row)} {n : Nat} (hl : Hid (n = ls.length)) (h : leavesFault ls = 0) : ∀ k, k < n → (ls.getD k []).length ≠ 0 := fun k hk => (good_leaf h k (by have := hl.out; omega)).1

set_option linter.unusedSimpArgs false in
set_option maxHeartbeats 800000 in
theorem implRowsOf_any (a : Option Addr) (n cap : Nat) (ls : List (List Ch.Row)) (w : World) (h : LvAt w a n ls) (hs : Ch.lvSize ls ≤ 1048576) :
    Calls Tryz.prog 40 #[.slice a n cap] w fun e w' => ∃ a' m c', e = .returned (.agg #[.int .i64 (Ch.rowsR ls).1, .slice a' m c']) ∧ m ≤ 1048576 ∧ w'.ownsRow w.heap.size 53 3 (.slice a' m c') m (rcells (Ch.rowsR ls).2) ∧ Below w.heap.size w w' := by
  have HL := h.len
  have hn : n ≤ 1048576 := by unfold Ch.lvSize at hs; have := HL.out; omega
  have b0 : Below w.heap.size w (w.alloc (.cells #[.int .i64 0, .slice none 0 0] 50)) := (Below.refl _ _).alloc (Nat.le_refl _) _
  cases hc : (Ch.leavesFault ls != 0)
  · have h0 : Ch.leavesFault ls = 0 := by simpa using hc
    have hg := Ch.good_at HL h0
    have HFl := hid (Ch.flat_small hs ls.length)
    rw [Ch.rowsR_ok h0]
    clear h0
    go_enter Tryz.func40, Tryz.ntmps40
    go_wp2_with fail
    refine (implLeaves_any a n cap ls _ (h.below b0) hs).mono ?_
    rintro e w1 ⟨rfl, b1⟩
    obtain ⟨x0, x1⟩ := box2 b1
    have f0 := box_froz b1 0
    have f1 := box_froz b1 1
    have hz := lt_of_cell x0
    have bE := b0.trans (b1.mono b0.size)
    generalize Ch.leavesFault ls = c at *
    go_wp2
    go_loopw [15] (fun i wr => ∃ (k m : Nat) (a' : Option Addr) (c' : Nat), k ≤ n ∧ i = .int .i64 k ∧ Hid (m = (ls.take k).flatten.length) ∧ wr.cell? ⟨w.heap.size, 0, none⟩ = some (.int .i64 0) ∧ wr.cell? ⟨w.heap.size, 1, none⟩ = some (.slice none 0 0) ∧ wr.frozen? ⟨w.heap.size, 0, none⟩ = false ∧ wr.frozen? ⟨w.heap.size, 1, none⟩ = false ∧ wr.cell? ⟨w1.heap.size, 0, none⟩ = some (.int .i64 0) ∧ wr.cell? ⟨w1.heap.size, 1, none⟩ = some (.slice a' m c') ∧ wr.frozen? ⟨w1.heap.size, 1, none⟩ = false ∧ wr.ownsRow (w1.heap.size + 1) 53 3 (.slice a' m c') m (rcells (ls.take k).flatten) ∧ Below w.heap.size w wr) (fun i _ => n - (intOf i).toNat)
    case atStart => exact ⟨0, 0, none, 0, Nat.zero_le _, rfl, rfl, by simp [go_sem, hz, x0], by simp [go_sem, hz, x1], by simp [go_sem, hz, f0], by simp [go_sem, hz, f1], by simp [go_sem], by simp [go_sem], by simp [go_sem], by simpa [rcells] using World.ownsRow_nil _ _ _ _, bE.alloc bE.size _⟩
    case round =>
      clear x0 x1 f0 f1
      obtain ⟨k, m, a', c', hk, rfl, HM, x0, x1, f0, f1, y0, y1, g1, own, hB⟩ := hrel
      have hy := lt_of_cell y0
      have hx := lt_of_cell x0
      by_cases hlt : k < n
      · have HS := hid (Ch.lv_leaf hs k)
        have HF := hid (Ch.flat_take ls k (by have := HL.out; omega))
        have HZ := hid (Ch.flat_small hs k)
        have hg0 := hg k hlt
        obtain ⟨b, off, ai, ni, ci, rfl, hcc, hr, hni⟩ := (h.below hB).leaf hlt
        have hbl := lt_of_cell hcc
        have HRl := hr.rlen
        obtain ⟨b1, o1, rfl, q0, _⟩ := hr.row (k := 0) (by have := HRl.out; omega)
        have hsum : m + ni ≤ 2097152 := by have := HZ.out; have := HM.out; have := HS.out; have := HRl.out; omega
        generalize ls.getD k [] = l at *
        generalize (ls.take k).flatten = F at *
        have bA : ∀ o, Below wr.heap.size wr (wr.alloc o) := fun o => (Below.refl _ _).alloc (Nat.le_refl _) _
        go_wp2_with (at_builtin; go_must (refine wpList_appRs (.tmp 20) (.tmp 22) (w1.heap.size + 1) (.slice a' m c') m F ni l hsum ?_ ?_ ?_ ?_ ?_ ?_ ?_; exact rfl; exact rfl; exact rfl; exact ⟨_, _, rfl, hr.below (bA _)⟩; exact owns_below own (bA _); (focus (simp; omega)); intro a3 c3 w3 own3 b3; have x0 := (b3.cell (p := ⟨w.heap.size, 0, none⟩) (by simp; omega)).trans (keep_cell (bA _) x0); have x1 := (b3.cell (p := ⟨w.heap.size, 1, none⟩) (by simp; omega)).trans (keep_cell (bA _) x1); have y0 := (b3.cell (p := ⟨w1.heap.size, 0, none⟩) (by simp)).trans (keep_cell (bA _) y0); have y1 := (b3.cell (p := ⟨w1.heap.size, 1, none⟩) (by simp)).trans (keep_cell (bA _) y1); have f0 := (b3.frozen (p := ⟨w.heap.size, 0, none⟩) (by simp; omega)).trans (((bcell (bA _)).2 _ _ hx).trans f0); have f1 := (b3.frozen (p := ⟨w.heap.size, 1, none⟩) (by simp; omega)).trans (((bcell (bA _)).2 _ _ hx).trans f1); have g1 := (b3.frozen (p := ⟨w1.heap.size, 1, none⟩) (by simp)).trans (((bcell (bA _)).2 _ _ hy).trans g1)))
        go_roundw
        case rel => exact ⟨k + 1, m + ni, a3, c3, by omega, by go_num, (by show _ = _; rw [HF.out]; have h1 := HM.out; have h2 := HRl.out; simp; omega), by simp [go_sem, x0, Nat.ne_of_lt hz], by simp [go_sem, x1, Nat.ne_of_lt hz], by simp [go_sem, f0], by simp [go_sem, f1], by simp [go_sem, y0], by simp [go_sem, y1], by simp [go_sem, g1], by rw [HF.out]; exact ownsRow_setCell_below (a := ⟨w1.heap.size, 1, none⟩) own3 (by simp) _, ((hB.alloc hB.size _).trans (b3.mono (by omega))).setCell (p := ⟨w1.heap.size, 1, none⟩) (by simp; omega) _⟩
        case measure => simp [intOf]; omega
      · obtain rfl : k = n := by omega
        go_wp2
        have e1 := HL.out
        have e2 := HM.out
        have e3 := HFl.out
        rw [List.take_of_length_le (by omega)] at own e2 e3
        refine bodyPost_ret (v := .agg #[.int .i64 0, .slice a' m c']) (by simp [results, Tryz.results40, go_sem, x0, x1]) rfl ⟨a', m, c', rfl, by omega, ?_, ?_⟩
        · exact owns_base (ownsRow_setCell_below (a := ⟨w.heap.size, 1, none⟩) (ownsRow_setCell_below (a := ⟨w.heap.size, 0, none⟩) own (by simp; omega) _) (by simp; omega) _) (by omega)
        · exact (hB.setCell (p := ⟨w.heap.size, 0, none⟩) (Nat.le_refl _) _).setCell (p := ⟨w.heap.size, 1, none⟩) (Nat.le_refl _) _
  · rw [Ch.rowsR_no hc]
    go_enter Tryz.func40, Tryz.ntmps40
    go_wp2_with fail
    refine (implLeaves_any a n cap ls _ (h.below b0) hs).mono ?_
    rintro e w1 ⟨rfl, b1⟩
    obtain ⟨x0, x1⟩ := box2 b1
    have f0 := box_froz b1 0
    have f1 := box_froz b1 1
    have hz := lt_of_cell x0
    have bE := b0.trans (b1.mono b0.size)
    generalize hq : Ch.leavesFault ls = c at *
    go_wp2
    exact bodyPost_ret (v := .agg #[.int .i64 c, .slice none 0 0]) (by simp [results, Tryz.results40, go_sem, x0, x1]) rfl ⟨none, 0, 0, by rw [hq], by omega, World.ownsRow_nil _ _ _ _, (bE.setCell (p := ⟨w.heap.size, 0, none⟩) (Nat.le_refl _) _).setCell (p := ⟨w.heap.size, 1, none⟩) (Nat.le_refl _) _⟩

end Go.Proofs.YthfanfnbjldddaaGreat
