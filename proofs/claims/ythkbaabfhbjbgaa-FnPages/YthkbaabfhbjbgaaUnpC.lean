/- Reading a page: the program's, up to its panics. -/
import Derived.Test.YthkbaabfhbjbgaaUnpB
namespace Go.Proofs.Ythkbaabfhbjbgaa
open Go.RowKit

/-- Cells of a part of a slice. -/
theorem cells_cut {w : World} {b off n lo m : Nat} {zs : List Int} (h : CellsAt w (some ⟨b, off, none⟩) n (bts zs)) (hk : lo + m ≤ n) :
    CellsAt w (some ⟨b, off + lo, none⟩) m (bts ((zs.drop lo).take m)) := by
  have hl := h.len.out
  refine ⟨by simp [bts]; omega, fun hm => ⟨b, off + lo, rfl, fun i hi => ?_⟩⟩
  obtain ⟨b', off', hbo, hc⟩ := h.2 (by omega)
  simp only [Option.some.injEq, Addr.mk.injEq, and_true] at hbo
  obtain ⟨rfl, rfl⟩ := hbo
  rw [Nat.add_assoc, hc (lo + i) (by omega)]
  simp [bts, hi]

theorem isB_cut {zs : List Int} (h : IsB zs) (lo m : Nat) : IsB ((zs.drop lo).take m) := by
  intro i
  by_cases hi : i < m
  · have := h (lo + i)
    simpa [List.getD, List.getElem?_take, hi] using this
  · simp [List.getD, List.getElem?_take, hi]

set_option maxHeartbeats 400000 in
theorem readPage_none (a : Option Addr) (cap : Nat) (w : World) :
    Calls Try.prog 43 #[.slice a 0 cap] w fun e w' => e = .panicked [{ v := .iface 70 (.int .i64 5), recovered := false }] ∧ Below w.heap.size w w' := by
  go_enter Try.func43, Try.ntmps43
  go_wp2
  exact ⟨rfl, rfl, Below.refl _ _⟩

set_option maxHeartbeats 400000 in
theorem readPage_text (b off n cap : Nat) (z0 : Int) (w : World) (hn : 0 < n) (hn2 : n ≤ 1048576) (hc : w.cell? ⟨b, off, none⟩ = some (.int .u8 z0)) (h0 : 0 ≤ z0) (h1 : z0 ≤ 255) (hne : ((n : Int) != 3 + 4 * z0) = true) :
    Calls Try.prog 43 #[.slice (some ⟨b, off, none⟩) n cap] w fun e w' => e = .panicked [{ v := .iface 70 (.int .i64 5), recovered := false }] ∧ Below w.heap.size w w' := by
  have hn0 : ((n : Int) == 0) = false := by simp; omega
  have hn1 : (0 : Int) < (n : Int) := by omega
  go_enter Try.func43, Try.ntmps43
  go_wp2
  exact ⟨rfl, rfl, Below.refl _ _⟩

set_option maxHeartbeats 1000000 in
theorem readPage_sum (b off q cap : Nat) (zs : List Int) (w : World) (h : CellsAt w (some ⟨b, off, none⟩) (q + 2) (bts zs)) (hb : IsB zs) (hq : q ≤ 2000) (hcap : q + 2 ≤ cap) (he : (((q : Int) + 2) != 3 + 4 * zs.getD 0 0) = false)
    (hs : ((zs.getD q 0 * 256 + zs.getD (q + 1) 0) != Ch.sumB (zs.take q)) = true) :
    Calls Try.prog 43 #[.slice (some ⟨b, off, none⟩) (q + 2) cap] w fun e w' => e = .panicked [{ v := .iface 70 (.int .i64 6), recovered := false }] ∧ Below w.heap.size w w' := by
  have hcut : CellsAt w (some ⟨b, off, none⟩) q (bts (zs.take q)) := by simpa using cells_cut h (lo := 0) (m := q) (by omega)
  have hbc : IsB (zs.take q) := by simpa using isB_cut hb 0 q
  obtain ⟨b0, off0, hbo, c0⟩ := h.at (show 0 < q + 2 by omega)
  simp only [Option.some.injEq, Addr.mk.injEq, and_true] at hbo
  obtain ⟨rfl, rfl⟩ := hbo
  obtain ⟨b0, off0, hbo, c1⟩ := h.at (show q < q + 2 by omega)
  simp only [Option.some.injEq, Addr.mk.injEq, and_true] at hbo
  obtain ⟨rfl, rfl⟩ := hbo
  obtain ⟨b0, off0, hbo, c2⟩ := h.at (show q + 1 < q + 2 by omega)
  simp only [Option.some.injEq, Addr.mk.injEq, and_true] at hbo
  obtain ⟨rfl, rfl⟩ := hbo
  obtain ⟨p0, p1⟩ := hb 0
  obtain ⟨p2, p3⟩ := hb q
  obtain ⟨p4, p5⟩ := hb (q + 1)
  have hn0 : (((q : Int) + 2) == 0) = false := by simp; omega
  have hn1 : (0 : Int) < (q : Int) + 2 := by omega
  rw [Nat.add_zero] at c0
  generalize zs.getD 0 0 = z0 at *
  generalize zs.getD q 0 = x at *
  generalize zs.getD (q + 1) 0 = y at *
  clear h hb
  go_enter Try.func43, Try.ntmps43
  go_wp2
  go_quiet (first | (go_at_call 58; exact Calls.quiet_of_same (join_any x y _ p2 p3 p4 p5)) | (go_at_call 19; exact Calls.quiet_of_same (implSum_any _ q _ (zs.take q) _ (by exact hcut) hbc (by omega))))
  go_wp2
  exact ⟨rfl, rfl, below_drewN (Below.refl _ _) _⟩

set_option maxHeartbeats 1000000 in
theorem readPage_bad (b off q cap : Nat) (zs : List Int) (w : World) (h : CellsAt w (some ⟨b, off, none⟩) (q + 2) (bts zs)) (hb : IsB zs) (hq : q ≤ 2000) (hcap : q + 2 ≤ cap) (he : (((q : Int) + 2) != 3 + 4 * zs.getD 0 0) = false)
    (hs : ((zs.getD q 0 * 256 + zs.getD (q + 1) 0) != Ch.sumB (zs.take q)) = false)
    (m : Nat) (hm : q = 1 + 4 * m) (j : Nat) (hg : Ch.GoodTo ((zs.drop 1).take (q - 1)) j) (hj : j < m) (hbad : 1 < ((zs.drop 1).take (q - 1)).getD (4 * j + 3) 0) :
    Calls Try.prog 43 #[.slice (some ⟨b, off, none⟩) (q + 2) cap] w fun e w' => e = .panicked [{ v := .iface 70 (.int .i64 1), recovered := false }] ∧ Below w.heap.size w w' := by
  have hcut : CellsAt w (some ⟨b, off, none⟩) q (bts (zs.take q)) := by simpa using cells_cut h (lo := 0) (m := q) (by omega)
  have hbc : IsB (zs.take q) := by simpa using isB_cut hb 0 q
  obtain ⟨b0, off0, hbo, c0⟩ := h.at (show 0 < q + 2 by omega)
  simp only [Option.some.injEq, Addr.mk.injEq, and_true] at hbo
  obtain ⟨rfl, rfl⟩ := hbo
  obtain ⟨b0, off0, hbo, c1⟩ := h.at (show q < q + 2 by omega)
  simp only [Option.some.injEq, Addr.mk.injEq, and_true] at hbo
  obtain ⟨rfl, rfl⟩ := hbo
  obtain ⟨b0, off0, hbo, c2⟩ := h.at (show q + 1 < q + 2 by omega)
  simp only [Option.some.injEq, Addr.mk.injEq, and_true] at hbo
  obtain ⟨rfl, rfl⟩ := hbo
  have hcut2 : CellsAt w (some ⟨b, off + 1, none⟩) (q - 1) (bts ((zs.drop 1).take (q - 1))) := cells_cut h (by omega)
  have hbc2 : IsB ((zs.drop 1).take (q - 1)) := isB_cut hb 1 (q - 1)
  have HM : Hid (q - 1 = 4 * m) := by show _ = _; omega
  have hqm : 1 ≤ q := by omega
  clear hm
  obtain ⟨p0, p1⟩ := hb 0
  obtain ⟨p2, p3⟩ := hb q
  obtain ⟨p4, p5⟩ := hb (q + 1)
  have hn0 : (((q : Int) + 2) == 0) = false := by simp; omega
  have hn1 : (0 : Int) < (q : Int) + 2 := by omega
  rw [Nat.add_zero] at c0
  generalize zs.getD 0 0 = z0 at *
  generalize zs.getD q 0 = x at *
  generalize zs.getD (q + 1) 0 = y at *
  generalize (zs.drop 1).take (q - 1) = ys at *
  clear h hb
  have j1 : (1 : Int) ≤ (q : Int) := by omega
  have j2 : (q : Int) ≤ (cap : Int) := by omega
  go_enter Try.func43, Try.ntmps43
  go_wp2
  go_quiet (first | (go_at_call 58; exact Calls.quiet_of_same (join_any x y _ p2 p3 p4 p5)) | (go_at_call 19; exact Calls.quiet_of_same (implSum_any _ q _ (zs.take q) _ (by exact hcut) hbc (by omega))))
  go_wp2_with fail
  refine (readRows_no _ (q - 1) _ m j ys _ (by exact hcut2) hbc2 HM.out (by omega) (by omega) hg hj hbad).mono ?_
  rintro e w1 ⟨rfl, b1⟩
  go_wp2
  exact ⟨rfl, rfl, (below_drewN (Below.refl _ _) _).trans (b1.mono (Nat.le_refl _))⟩

set_option maxHeartbeats 1000000 in
theorem readPage_fault (b off q cap : Nat) (zs : List Int) (w : World) (h : CellsAt w (some ⟨b, off, none⟩) (q + 2) (bts zs)) (hb : IsB zs) (hq : q ≤ 2000) (hcap : q + 2 ≤ cap) (he : (((q : Int) + 2) != 3 + 4 * zs.getD 0 0) = false)
    (hs : ((zs.getD q 0 * 256 + zs.getD (q + 1) 0) != Ch.sumB (zs.take q)) = false)
    (m : Nat) (hm : q = 1 + 4 * m) (hg : Ch.GoodTo ((zs.drop 1).take (q - 1)) m) (c : Int) (hf : Ch.pageFault (Ch.rowsIn ((zs.drop 1).take (q - 1)) m) = c) (hc : (c != 0) = true) :
    Calls Try.prog 43 #[.slice (some ⟨b, off, none⟩) (q + 2) cap] w fun e w' => e = .panicked [{ v := .iface 70 (.int .i64 1), recovered := false }] ∧ Below w.heap.size w w' := by
  have hcut : CellsAt w (some ⟨b, off, none⟩) q (bts (zs.take q)) := by simpa using cells_cut h (lo := 0) (m := q) (by omega)
  have hbc : IsB (zs.take q) := by simpa using isB_cut hb 0 q
  obtain ⟨b0, off0, hbo, c0⟩ := h.at (show 0 < q + 2 by omega)
  simp only [Option.some.injEq, Addr.mk.injEq, and_true] at hbo
  obtain ⟨rfl, rfl⟩ := hbo
  obtain ⟨b0, off0, hbo, c1⟩ := h.at (show q < q + 2 by omega)
  simp only [Option.some.injEq, Addr.mk.injEq, and_true] at hbo
  obtain ⟨rfl, rfl⟩ := hbo
  obtain ⟨b0, off0, hbo, c2⟩ := h.at (show q + 1 < q + 2 by omega)
  simp only [Option.some.injEq, Addr.mk.injEq, and_true] at hbo
  obtain ⟨rfl, rfl⟩ := hbo
  have hcut2 : CellsAt w (some ⟨b, off + 1, none⟩) (q - 1) (bts ((zs.drop 1).take (q - 1))) := cells_cut h (by omega)
  have hbc2 : IsB ((zs.drop 1).take (q - 1)) := isB_cut hb 1 (q - 1)
  have HM : Hid (q - 1 = 4 * m) := by show _ = _; omega
  have hqm : 1 ≤ q := by omega
  clear hm
  obtain ⟨p0, p1⟩ := hb 0
  obtain ⟨p2, p3⟩ := hb q
  obtain ⟨p4, p5⟩ := hb (q + 1)
  have hn0 : (((q : Int) + 2) == 0) = false := by simp; omega
  have hn1 : (0 : Int) < (q : Int) + 2 := by omega
  rw [Nat.add_zero] at c0
  generalize zs.getD 0 0 = z0 at *
  generalize zs.getD q 0 = x at *
  generalize zs.getD (q + 1) 0 = y at *
  generalize (zs.drop 1).take (q - 1) = ys at *
  clear h hb
  have j1 : (1 : Int) ≤ (q : Int) := by omega
  have j2 : (q : Int) ≤ (cap : Int) := by omega
  go_enter Try.func43, Try.ntmps43
  go_wp2
  go_quiet (first | (go_at_call 58; exact Calls.quiet_of_same (join_any x y _ p2 p3 p4 p5)) | (go_at_call 19; exact Calls.quiet_of_same (implSum_any _ q _ (zs.take q) _ (by exact hcut) hbc (by omega))))
  go_wp2_with fail
  refine (readRows_ok _ (q - 1) _ m ys _ (by exact hcut2) hbc2 HM.out (by omega) (by omega) hg).mono ?_
  rintro e w1 ⟨a1, c1', rfl, o1, b1⟩
  have b1' := (below_drewN (Below.refl w.heap.size w) _).trans (b1.mono (Nat.le_refl _))
  have hmm : m ≤ 2000 := by have := HM.out; omega
  go_wp2_with fail
  refine (implPage_any _ m _ (Ch.rowsIn ys m) _ (owns_cells o1) (by omega)).mono ?_
  rw [hf]
  rintro e w2 ⟨rfl, b2⟩
  go_wp2
  exact ⟨rfl, rfl, b1'.trans (b2.mono b1'.size)⟩

set_option maxHeartbeats 1000000 in
theorem readPage_ok (b off q cap : Nat) (zs : List Int) (w : World) (h : CellsAt w (some ⟨b, off, none⟩) (q + 2) (bts zs)) (hb : IsB zs) (hq : q ≤ 2000) (hcap : q + 2 ≤ cap) (he : (((q : Int) + 2) != 3 + 4 * zs.getD 0 0) = false)
    (hs : ((zs.getD q 0 * 256 + zs.getD (q + 1) 0) != Ch.sumB (zs.take q)) = false)
    (m : Nat) (hm : q = 1 + 4 * m) (hg : Ch.GoodTo ((zs.drop 1).take (q - 1)) m) (hf : Ch.pageFault (Ch.rowsIn ((zs.drop 1).take (q - 1)) m) = 0) :
    Calls Try.prog 43 #[.slice (some ⟨b, off, none⟩) (q + 2) cap] w fun e w' => ∃ a' c', e = .returned (.slice a' m c') ∧ w'.ownsRow w.heap.size 36 3 (.slice a' m c') m (rcells (Ch.rowsIn ((zs.drop 1).take (q - 1)) m)) ∧ Below w.heap.size w w' := by
  have hcut : CellsAt w (some ⟨b, off, none⟩) q (bts (zs.take q)) := by simpa using cells_cut h (lo := 0) (m := q) (by omega)
  have hbc : IsB (zs.take q) := by simpa using isB_cut hb 0 q
  obtain ⟨b0, off0, hbo, c0⟩ := h.at (show 0 < q + 2 by omega)
  simp only [Option.some.injEq, Addr.mk.injEq, and_true] at hbo
  obtain ⟨rfl, rfl⟩ := hbo
  obtain ⟨b0, off0, hbo, c1⟩ := h.at (show q < q + 2 by omega)
  simp only [Option.some.injEq, Addr.mk.injEq, and_true] at hbo
  obtain ⟨rfl, rfl⟩ := hbo
  obtain ⟨b0, off0, hbo, c2⟩ := h.at (show q + 1 < q + 2 by omega)
  simp only [Option.some.injEq, Addr.mk.injEq, and_true] at hbo
  obtain ⟨rfl, rfl⟩ := hbo
  have hcut2 : CellsAt w (some ⟨b, off + 1, none⟩) (q - 1) (bts ((zs.drop 1).take (q - 1))) := cells_cut h (by omega)
  have hbc2 : IsB ((zs.drop 1).take (q - 1)) := isB_cut hb 1 (q - 1)
  have HM : Hid (q - 1 = 4 * m) := by show _ = _; omega
  have hqm : 1 ≤ q := by omega
  clear hm
  obtain ⟨p0, p1⟩ := hb 0
  obtain ⟨p2, p3⟩ := hb q
  obtain ⟨p4, p5⟩ := hb (q + 1)
  have hn0 : (((q : Int) + 2) == 0) = false := by simp; omega
  have hn1 : (0 : Int) < (q : Int) + 2 := by omega
  rw [Nat.add_zero] at c0
  generalize zs.getD 0 0 = z0 at *
  generalize zs.getD q 0 = x at *
  generalize zs.getD (q + 1) 0 = y at *
  generalize (zs.drop 1).take (q - 1) = ys at *
  clear h hb
  have j1 : (1 : Int) ≤ (q : Int) := by omega
  have j2 : (q : Int) ≤ (cap : Int) := by omega
  go_enter Try.func43, Try.ntmps43
  go_wp2
  go_quiet (first | (go_at_call 58; exact Calls.quiet_of_same (join_any x y _ p2 p3 p4 p5)) | (go_at_call 19; exact Calls.quiet_of_same (implSum_any _ q _ (zs.take q) _ (by exact hcut) hbc (by omega))))
  go_wp2_with fail
  refine (readRows_ok _ (q - 1) _ m ys _ (by exact hcut2) hbc2 HM.out (by omega) (by omega) hg).mono ?_
  rintro e w1 ⟨a1, c1', rfl, o1, b1⟩
  have b1' := (below_drewN (Below.refl w.heap.size w) _).trans (b1.mono (Nat.le_refl _))
  have hmm : m ≤ 2000 := by have := HM.out; omega
  go_wp2_with fail
  refine (implPage_any _ m _ (Ch.rowsIn ys m) _ (owns_cells o1) (by omega)).mono ?_
  rw [hf]
  rintro e w2 ⟨rfl, b2⟩
  go_wp2
  go_ret
  exact ⟨a1, c1', rfl, owns_base (owns_below o1 b2) (Nat.le_refl _), b1'.trans (b2.mono b1'.size)⟩

end Go.Proofs.Ythkbaabfhbjbgaa
