/- UnpackPage of the model. -/
import Derived.Test.YthkbaabfhbjbgaaUnpD
namespace Go.Proofs.Ythkbaabfhbjbgaa
open Go.RowKit

theorem take_at (i x y : Int) (a : Option Addr) (n cap k : Nat) (zs : List Int) (w : World) (hi : i = (k : Int)) (hx : Hid (zs.getD k 0 = x)) (hy : Hid (zs.getD (k + 1) 0 = y)) (h : CellsAt w a n (bts zs)) (hb : IsB zs) (hn : n ≤ 1099511627776) (hk : k + 1 < n) :
    Calls Try.prog 46 #[.slice a n cap, .int .i64 i] w fun e w' => e = .returned (.int .i64 (x * 256 + y)) ∧ ∃ q, w' = w.drewN q := by
  subst hi
  rw [← hx.out, ← hy.out]
  exact take_any a n cap k zs w h hb hn hk

set_option maxHeartbeats 400000 in
theorem specUnp_short (a : Option Addr) (n cap : Nat) (w : World) (hn : n < 3) :
    Calls Try.prog 13 #[.slice a n cap] w fun e w' => e = .returned (.agg #[.int .i64 5, .slice none 0 0]) ∧ Below w.heap.size w w' := by
  go_enter Try.func13, Try.ntmps13
  go_wp2
  exact bodyPost_ret (v := .agg #[.int .i64 5, .slice none 0 0]) (by simp [results, Try.results13, go_sem]) rfl ⟨rfl, (Below.refl _ _).alloc (Nat.le_refl _) _⟩

set_option maxHeartbeats 400000 in
theorem specUnp_text (b off n cap : Nat) (z0 : Int) (w : World) (hn : 3 ≤ n) (hn2 : n ≤ 1048576) (hc : w.cell? ⟨b, off, none⟩ = some (.int .u8 z0)) (h0 : 0 ≤ z0) (h1 : z0 ≤ 255) (hne : ((n : Int) != 3 + 4 * z0) = true) :
    Calls Try.prog 13 #[.slice (some ⟨b, off, none⟩) n cap] w fun e w' => e = .returned (.agg #[.int .i64 5, .slice none 0 0]) ∧ Below w.heap.size w w' := by
  have hn0 : ¬ (n : Int) < 3 := by omega
  have hn1 : (0 : Int) < (n : Int) := by omega
  have hbl := lt_of_cell hc
  go_enter Try.func13, Try.ntmps13
  go_wp2
  exact bodyPost_ret (v := .agg #[.int .i64 5, .slice none 0 0]) (by simp [results, Try.results13, go_sem]) rfl ⟨rfl, (Below.refl _ _).alloc (Nat.le_refl _) _⟩

set_option maxHeartbeats 1000000 in
theorem specUnp_sum (b off q cap : Nat) (zs : List Int) (w : World) (h : CellsAt w (some ⟨b, off, none⟩) (q + 2) (bts zs)) (hb : IsB zs) (hq1 : 1 ≤ q) (hq : q ≤ 2000) (hcap : q + 2 ≤ cap) (he : (((q : Int) + 2) != 3 + 4 * zs.getD 0 0) = false)
    (hs : ((zs.getD q 0 * 256 + zs.getD (q + 1) 0) != Ch.sumB (zs.take q)) = true) :
    Calls Try.prog 13 #[.slice (some ⟨b, off, none⟩) (q + 2) cap] w fun e w' => e = .returned (.agg #[.int .i64 6, .slice none 0 0]) ∧ Below w.heap.size w w' := by
  have hA := h.below ((Below.refl w.heap.size w).alloc (Nat.le_refl _) (.cells #[.int .i64 0, .slice none 0 0] 27))
  have hcut : CellsAt (w.alloc (.cells #[.int .i64 0, .slice none 0 0] 27)) (some ⟨b, off, none⟩) q (bts (zs.take q)) := by simpa using cells_cut hA (lo := 0) (m := q) (by omega)
  have hbc : IsB (zs.take q) := by simpa using isB_cut hb 0 q
  obtain ⟨b0, off0, hbo, c0⟩ := h.at (show 0 < q + 2 by omega)
  simp only [Option.some.injEq, Addr.mk.injEq, and_true] at hbo
  obtain ⟨rfl, rfl⟩ := hbo
  obtain ⟨p0, p1⟩ := hb 0
  have hn0 : ¬ ((q : Int) + 2) < 3 := by omega
  have hn1 : (0 : Int) < (q : Int) + 2 := by omega
  rw [Nat.add_zero] at c0
  have hbl := lt_of_cell c0
  have j1 : (0 : Int) ≤ (q : Int) := by omega
  have j2 : (q : Int) ≤ (cap : Int) := by omega
  generalize zs.getD 0 0 = z0 at *
  obtain ⟨x, HX⟩ : ∃ x, Hid (zs.getD q 0 = x) := ⟨_, rfl⟩
  obtain ⟨y, HY⟩ : ∃ y, Hid (zs.getD (q + 1) 0 = y) := ⟨_, rfl⟩
  rw [HX.out, HY.out] at hs
  obtain ⟨t, HT⟩ : ∃ t, Hid (zs.take q = t) := ⟨_, rfl⟩
  rw [HT.out] at hs hcut hbc
  go_enter Try.func13, Try.ntmps13
  go_wp2
  go_quiet (first | (go_at_call 46; exact Calls.quiet_of (take_at _ x y _ (q + 2) _ q zs _ (by omega) HX HY (by exact hA) hb (by omega) (by omega))) | (go_at_call 20; exact Calls.quiet_of_same (specSum_any _ q _ t _ (by exact hcut) hbc (by omega))))
  go_wp2
  refine bodyPost_ret (v := .agg #[.int .i64 6, .slice none 0 0]) (by simp [results, Try.results13, go_sem]) rfl ⟨rfl, ?_⟩
  exact ((below_drewN ((Below.refl _ _).alloc (Nat.le_refl _) _) _).setCell (Nat.le_refl _) _).setCell (Nat.le_refl _) _
end Go.Proofs.Ythkbaabfhbjbgaa
