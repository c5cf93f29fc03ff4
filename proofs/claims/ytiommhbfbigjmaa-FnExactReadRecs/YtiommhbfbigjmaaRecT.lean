/- Records held against records, marks written into records and read back. -/
import Derived.Test.YtiommhbfbigjmaaRecS
namespace Go.Proofs.Ytiommhbfbigjmaa
open Go.RowKit

set_option linter.unusedSimpArgs false in
set_option maxHeartbeats 2000000 in
theorem eqRecS_same (a a' : Option Addr) (n cap cap' : Nat) (rs : List Ch.Rec) (w : World) (h : CellsAt w a (n * 7) (rc7 rs)) (h' : CellsAt w a' (n * 7) (rc7 rs)) (hn : n ≤ 1048576) :
    Calls Try.prog 74 #[.slice a n cap, .slice a' n cap'] w fun e w' => e = .returned (.bool true) ∧ Below w.heap.size w w' := by
  have hnn : ((n : Int) != n) = false := by simp
  go_enter Try.func74, Try.ntmps74
  go_wp2
  go_loopw [5] (fun i wr => ∃ k : Nat, k ≤ n ∧ i = .int .i64 k ∧ Below w.heap.size w wr) (fun i _ => n - (intOf i).toNat)
  case atStart => exact ⟨0, Nat.zero_le _, rfl, Below.refl _ _⟩
  case round =>
    obtain ⟨k, hk, rfl, hB⟩ := hrel
    by_cases hlt : k < n
    · obtain ⟨b, off, rfl, hx⟩ := (h.below hB).rec hlt
      obtain ⟨b', off', rfl, hy⟩ := (h'.below hB).rec hlt
      generalize rs.getD k Ch.Rec.zero = r at *
      obtain ⟨kd, tx, ky, hd, ol, hs, nw⟩ := r
      obtain ⟨x0, x1, x2, x3, x4, x5, x6⟩ := hx
      obtain ⟨y0, y1, y2, y3, y4, y5, y6⟩ := hy
      simp only at x0 x1 x2 x3 x4 x5 x6 y0 y1 y2 y3 y4 y5 y6
      have i1 : (k : Int) < (n : Int) := by omega
      go_wp2
      have HS : Hid (∀ W', Below wr.heap.size wr W' → W'.cell? ⟨b, off + k * 7, none⟩ = some (.int .i64 kd) ∧ W'.cell? ⟨b, off + k * 7 + 1, none⟩ = some (.int .i64 tx) ∧ W'.cell? ⟨b, off + k * 7 + 2, none⟩ = some (.int .i64 ky) ∧ W'.cell? ⟨b, off + k * 7 + 3, none⟩ = some (.bool hd) ∧ W'.cell? ⟨b, off + k * 7 + 4, none⟩ = some (.int .i64 ol) ∧ W'.cell? ⟨b, off + k * 7 + 5, none⟩ = some (.bool hs) ∧ W'.cell? ⟨b, off + k * 7 + 6, none⟩ = some (.int .i64 nw) ∧ W'.cell? ⟨b', off' + k * 7, none⟩ = some (.int .i64 kd) ∧ W'.cell? ⟨b', off' + k * 7 + 1, none⟩ = some (.int .i64 tx) ∧ W'.cell? ⟨b', off' + k * 7 + 2, none⟩ = some (.int .i64 ky) ∧ W'.cell? ⟨b', off' + k * 7 + 3, none⟩ = some (.bool hd) ∧ W'.cell? ⟨b', off' + k * 7 + 4, none⟩ = some (.int .i64 ol) ∧ W'.cell? ⟨b', off' + k * 7 + 5, none⟩ = some (.bool hs) ∧ W'.cell? ⟨b', off' + k * 7 + 6, none⟩ = some (.int .i64 nw) ∧ Below wr.heap.size wr W') := fun W' hb' => ⟨keep_cell hb' x0, keep_cell hb' x1, keep_cell hb' x2, keep_cell hb' x3, keep_cell hb' x4, keep_cell hb' x5, keep_cell hb' x6, keep_cell hb' y0, keep_cell hb' y1, keep_cell hb' y2, keep_cell hb' y3, keep_cell hb' y4, keep_cell hb' y5, keep_cell hb' y6, hb'⟩
      refine wp_region_noPanic ?_
      refine wp_region_held_drew (S := fun W' => W'.cell? ⟨b, off + k * 7, none⟩ = some (.int .i64 kd) ∧ W'.cell? ⟨b, off + k * 7 + 1, none⟩ = some (.int .i64 tx) ∧ W'.cell? ⟨b, off + k * 7 + 2, none⟩ = some (.int .i64 ky) ∧ W'.cell? ⟨b, off + k * 7 + 3, none⟩ = some (.bool hd) ∧ W'.cell? ⟨b, off + k * 7 + 4, none⟩ = some (.int .i64 ol) ∧ W'.cell? ⟨b, off + k * 7 + 5, none⟩ = some (.bool hs) ∧ W'.cell? ⟨b, off + k * 7 + 6, none⟩ = some (.int .i64 nw) ∧ W'.cell? ⟨b', off' + k * 7, none⟩ = some (.int .i64 kd) ∧ W'.cell? ⟨b', off' + k * 7 + 1, none⟩ = some (.int .i64 tx) ∧ W'.cell? ⟨b', off' + k * 7 + 2, none⟩ = some (.int .i64 ky) ∧ W'.cell? ⟨b', off' + k * 7 + 3, none⟩ = some (.bool hd) ∧ W'.cell? ⟨b', off' + k * 7 + 4, none⟩ = some (.int .i64 ol) ∧ W'.cell? ⟨b', off' + k * 7 + 5, none⟩ = some (.bool hs) ∧ W'.cell? ⟨b', off' + k * 7 + 6, none⟩ = some (.int .i64 nw) ∧ Below wr.heap.size wr W') (by kernel_rfl) (HS.out _ (Below.refl _ _).drew) (fun hH => ?_)
      refine hTake (i := 0) (v := ?_) rfl (by kernel_rfl) (by kernel_rfl) (by kernel_rfl) (by rfl) ?_ hH ?_
      rotate_left
      · intro W hW; (try dsimp only at hW); go_simp <;> with_reducible rfl
      simp only [Act.put, List.setIfInBounds_toArray, List.set_cons_zero, List.set_cons_succ]
      refine hTake (i := 1) (v := ?_) rfl (by kernel_rfl) (by kernel_rfl) (by kernel_rfl) (by rfl) ?_ hH ?_
      rotate_left
      · intro W hW; (try dsimp only at hW); go_simp <;> with_reducible rfl
      simp only [Act.put, List.setIfInBounds_toArray, List.set_cons_zero, List.set_cons_succ]
      refine hTake (i := 2) (v := ?_) rfl (by kernel_rfl) (by kernel_rfl) (by kernel_rfl) (by rfl) ?_ hH ?_
      rotate_left
      · intro W hW; (try dsimp only at hW); go_simp <;> with_reducible rfl
      simp only [Act.put, List.setIfInBounds_toArray, List.set_cons_zero, List.set_cons_succ]
      refine hTake (i := 3) (v := ?_) rfl (by kernel_rfl) (by kernel_rfl) (by kernel_rfl) (by rfl) ?_ hH ?_
      rotate_left
      · intro W hW; (try dsimp only at hW); go_simp <;> with_reducible rfl
      simp only [Act.put, List.setIfInBounds_toArray, List.set_cons_zero, List.set_cons_succ]
      refine hTake (i := 4) (v := ?_) rfl (by kernel_rfl) (by kernel_rfl) (by kernel_rfl) (by rfl) ?_ hH ?_
      rotate_left
      · intro W hW; (try dsimp only at hW); go_simp <;> with_reducible rfl
      simp only [Act.put, List.setIfInBounds_toArray, List.set_cons_zero, List.set_cons_succ]
      refine hTake (i := 5) (v := ?_) rfl (by kernel_rfl) (by kernel_rfl) (by kernel_rfl) (by rfl) ?_ hH ?_
      rotate_left
      · intro W hW; (try dsimp only at hW); go_simp <;> with_reducible rfl
      simp only [Act.put, List.setIfInBounds_toArray, List.set_cons_zero, List.set_cons_succ]
      refine hTake (i := 6) (v := ?_) rfl (by kernel_rfl) (by kernel_rfl) (by kernel_rfl) (by rfl) ?_ hH ?_
      rotate_left
      · intro W hW; (try dsimp only at hW); go_simp <;> with_reducible rfl
      simp only [Act.put, List.setIfInBounds_toArray, List.set_cons_zero, List.set_cons_succ]
      refine hTake (i := 7) (v := ?_) rfl (by kernel_rfl) (by kernel_rfl) (by kernel_rfl) (by rfl) ?_ hH ?_
      rotate_left
      · intro W hW; (try dsimp only at hW); go_simp <;> with_reducible rfl
      simp only [Act.put, List.setIfInBounds_toArray, List.set_cons_zero, List.set_cons_succ]
      refine wpAnyH_ready (rs := [8]) (by kernel_rfl) (by simp) ?_
      refine AllReadyH.cons rfl (fun K hK => ?_) AllReadyH.nil
      go_simp
      refine (eqRec_same _ _ _ _ _ _ _ _).mono ?_
      rintro e w1 ⟨rfl, b1⟩
      have b1A := hH.2.2.2.2.2.2.2.2.2.2.2.2.2.2.trans (b1.mono (by simp))
      go_wp2_with fail
      refine hK.out _ _ ?_ (fun hH => ?_)
      · exact HS.out _ b1A
      clear hK K
      refine hTake (i := 9) (v := ?_) rfl (by kernel_rfl) (by kernel_rfl) (by kernel_rfl) (by rfl) ?_ hH ?_
      rotate_left
      · intro W hW; (try dsimp only at hW); go_simp <;> with_reducible rfl
      simp only [Act.put, List.setIfInBounds_toArray, List.set_cons_zero, List.set_cons_succ]
      refine wpAnyH_done (by kernel_rfl) ?_ _
      refine NoPanic.normal ?_
      have bF := hB.trans (b1A.mono hB.size)
      clear hH HS
      go_wp2
      go_roundw
      case rel => exact ⟨k + 1, by omega, by go_num, bF⟩
      case measure => simp [intOf]; omega
    · obtain rfl : k = n := by omega
      go_wp2
      go_ret
      exact ⟨rfl, hB⟩

set_option maxHeartbeats 400000 in
theorem eqRecsResult_same (c u : Int) (a a' : Option Addr) (n cap cap' : Nat) (rs : List Ch.Rec) (w : World) (h : CellsAt w a (n * 7) (rc7 rs)) (h' : CellsAt w a' (n * 7) (rc7 rs)) (hn : n ≤ 1048576) :
    Calls Try.prog 32 #[.agg #[.int .i64 c, .int .i64 u, .slice a n cap], .agg #[.int .i64 c, .int .i64 u, .slice a' n cap']] w fun e w' => e = .returned (.bool true) ∧ Below w.heap.size w w' := by
  have hcc : (c != c) = false := by simp
  have huu : (u != u) = false := by simp
  have b0 : Below w.heap.size w ((w.alloc (.cells #[.int .i64 c, .int .i64 u, .slice a n cap] 34)).alloc (.cells #[.int .i64 c, .int .i64 u, .slice a' n cap'] 34)) := ((Below.refl _ _).alloc (Nat.le_refl _) _).alloc (by simp) _
  go_enter Try.func32, Try.ntmps32
  go_wp2_with fail
  refine (eqRecS_same a a' n cap cap' rs _ (h.below b0) (h'.below b0) hn).mono ?_
  rintro e w1 ⟨rfl, b1⟩
  go_wp2
  go_ret
  exact ⟨rfl, b0.trans (b1.mono (by simp; omega))⟩

/-- The marks that a law writes into records. -/
def mark7 (k : Nat) : Ch.Rec := ⟨1 + 7 * (k : Int), 1 + 7 * (k : Int) + 1, 1 + 7 * (k : Int) + 1 + 1, (1 + 7 * (k : Int) + 1 + 1 + 1) % 3 == 0, 1 + 7 * (k : Int) + 1 + 1 + 1 + 1, (1 + 7 * (k : Int) + 1 + 1 + 1 + 1 + 1) % 3 == 0, 1 + 7 * (k : Int) + 1 + 1 + 1 + 1 + 1 + 1⟩
def marks7 (n : Nat) : List Ch.Rec := (List.range n).map mark7
theorem marks7_len (n : Nat) : (marks7 n).length = n := by simp [marks7]
theorem marks7_snoc (n : Nat) : marks7 (n + 1) = marks7 n ++ [mark7 n] := by simp [marks7, List.range_succ]
theorem marks7_at (n k : Nat) (h : k < n) : (marks7 n).getD k Ch.Rec.zero = mark7 k := by simp [marks7, List.getD, h]
def marked7 (rs : List Ch.Rec) (k : Nat) : List Ch.Rec := marks7 k ++ rs.drop k

theorem rc7_set (rs : List Ch.Rec) (k : Nat) (r : Ch.Rec) (h : k < rs.length) :
    ((((((((rc7 rs).set (k * 7) (.int .i64 r.kd)).set (k * 7 + 1) (.int .i64 r.tx)).set (k * 7 + 2) (.int .i64 r.ky)).set (k * 7 + 3) (.bool r.hd)).set (k * 7 + 4) (.int .i64 r.ol)).set (k * 7 + 5) (.bool r.hs)).set (k * 7 + 6) (.int .i64 r.nw)) = rc7 (rs.set k r) := by
  induction rs generalizing k with
  | nil => simp at h
  | cons q rs ih =>
    cases k with
    | zero => simp [rc7, c7]
    | succ k =>
      have := ih k (by simpa using h)
      simp only [rc7, c7, List.flatMap_cons, List.set_cons_succ] at *
      rw [← this, show (k + 1) * 7 = k * 7 + 1 + 1 + 1 + 1 + 1 + 1 + 1 by omega]
      simp
theorem marked7_set (rs : List Ch.Rec) (k : Nat) (h : k < rs.length) :
    (((((((rc7 (marked7 rs k)).set (k * 7) (.int .i64 (1 + 7 * (k : Int)))).set (k * 7 + 1) (.int .i64 (1 + 7 * (k : Int) + 1))).set (k * 7 + 2) (.int .i64 (1 + 7 * (k : Int) + 1 + 1))).set (k * 7 + 3) (.bool ((1 + 7 * (k : Int) + 1 + 1 + 1) % 3 == 0))).set (k * 7 + 4) (.int .i64 (1 + 7 * (k : Int) + 1 + 1 + 1 + 1))).set (k * 7 + 5) (.bool ((1 + 7 * (k : Int) + 1 + 1 + 1 + 1 + 1) % 3 == 0))).set (k * 7 + 6) (.int .i64 (1 + 7 * (k : Int) + 1 + 1 + 1 + 1 + 1 + 1)) = rc7 (marked7 rs (k + 1)) := by
  have := rc7_set (marked7 rs k) k (mark7 k) (by simp [marked7, marks7_len]; omega)
  rw [show rc7 (marked7 rs (k + 1)) = rc7 ((marked7 rs k).set k (mark7 k)) by unfold marked7; rw [Ch.set_mid _ _ _ _ (marks7_len k) h, marks7_snoc], ← this]
  rfl

theorem owns_stored7 {w : World} {base : Nat} {e : TypeId} {size g n cap : Nat} {xs : List Value} (h : w.ownsRow base e size (.slice (some ⟨g, 0, none⟩) n cap) n xs) (j : Nat) (v0 v1 v2 v3 v4 v5 v6 : Value) :
    (((((((w.setCell ⟨g, j, none⟩ v0).setCell ⟨g, j + 1, none⟩ v1).setCell ⟨g, j + 2, none⟩ v2).setCell ⟨g, j + 3, none⟩ v3).setCell ⟨g, j + 4, none⟩ v4).setCell ⟨g, j + 5, none⟩ v5).setCell ⟨g, j + 6, none⟩ v6).ownsRow base e size (.slice (some ⟨g, 0, none⟩) n cap) n (((((((xs.set j v0).set (j + 1) v1).set (j + 2) v2).set (j + 3) v3).set (j + 4) v4).set (j + 5) v5).set (j + 6) v6) ∧
    w.grownBy (((((((w.setCell ⟨g, j, none⟩ v0).setCell ⟨g, j + 1, none⟩ v1).setCell ⟨g, j + 2, none⟩ v2).setCell ⟨g, j + 3, none⟩ v3).setCell ⟨g, j + 4, none⟩ v4).setCell ⟨g, j + 5, none⟩ v5).setCell ⟨g, j + 6, none⟩ v6) (some g) := by
  have s0 := h.stored j v0
  have s1 := s0.1.stored (j + 1) v1
  have s2 := s1.1.stored (j + 2) v2
  have s3 := s2.1.stored (j + 3) v3
  have s4 := s3.1.stored (j + 4) v4
  have s5 := s4.1.stored (j + 5) v5
  have s6 := s5.1.stored (j + 6) v6
  exact ⟨s6.1, gr_trans (gr_trans (gr_trans (gr_trans (gr_trans (gr_trans s0.2 s1.2) s2.2) s3.2) s4.2) s5.2) s6.2⟩

set_option maxHeartbeats 2000000 in
theorem markRecS_any (B g n cp : Nat) (rs : List Ch.Rec) (w : World) (hown : w.ownsRow B 26 7 (.slice (some ⟨g, 0, none⟩) n cp) n (rc7 rs)) (hn : n ≤ 1048579) :
    Calls Try.prog 75 #[.slice (some ⟨g, 0, none⟩) n cp, .int .i64 1] w fun e w' => e = .returned (.int .i64 (1 + 7 * n)) ∧ w'.ownsRow B 26 7 (.slice (some ⟨g, 0, none⟩) n cp) n (rc7 (marks7 n)) ∧ w.grownBy w' (some g) := by
  have HL := (owns_cells hown).len7
  go_enter Try.func75, Try.ntmps75
  go_wp2
  go_loopw [1, 5] (fun q i wr => ∃ k : Nat, k ≤ n ∧ i = .int .i64 k ∧ q = .int .i64 (1 + 7 * (k : Int)) ∧ wr.ownsRow B 26 7 (.slice (some ⟨g, 0, none⟩) n cp) n (rc7 (marked7 rs k)) ∧ w.grownBy wr (some g)) (fun _ i _ => n - (intOf i).toNat)
  case atStart => exact ⟨0, Nat.zero_le _, rfl, rfl, hown, ⟨rfl, rfl, rfl, Nat.le_refl _, fun _ _ _ => rfl⟩⟩
  case round =>
    obtain ⟨k, hk, rfl, rfl, own, gr⟩ := hrel
    by_cases hlt : k < n
    · have hf0 := own.frozenAt (k * 7)
      have hf1 := own.frozenAt (k * 7 + 1)
      have hf2 := own.frozenAt (k * 7 + 2)
      have hf3 := own.frozenAt (k * 7 + 3)
      have hf4 := own.frozenAt (k * 7 + 4)
      have hf5 := own.frozenAt (k * 7 + 5)
      have hf6 := own.frozenAt (k * 7 + 6)
      obtain ⟨u0, hd0⟩ := owns_some own (j := k * 7) (by omega)
      obtain ⟨u1, hd1⟩ := owns_some own (j := k * 7 + 1) (by omega)
      obtain ⟨u2, hd2⟩ := owns_some own (j := k * 7 + 2) (by omega)
      obtain ⟨u3, hd3⟩ := owns_some own (j := k * 7 + 3) (by omega)
      obtain ⟨u4, hd4⟩ := owns_some own (j := k * 7 + 4) (by omega)
      obtain ⟨u5, hd5⟩ := owns_some own (j := k * 7 + 5) (by omega)
      obtain ⟨u6, hd6⟩ := owns_some own (j := k * 7 + 6) (by omega)
      have HS := hid (marked7_set rs k (by have := HL.out; omega))
      go_wp2
      go_roundw
      case rel =>
        refine ⟨k + 1, by omega, by go_num, by go_num, ?_, ?_⟩
        · rw [← HS.out]; exact (owns_stored7 own _ _ _ _ _ _ _ _).1
        · exact gr_trans gr (owns_stored7 own _ _ _ _ _ _ _ _).2
      case measure => simp [intOf]; omega
    · obtain rfl : k = n := by omega
      go_wp2
      go_ret
      refine ⟨rfl, ?_, gr⟩
      have := HL.out
      simpa [marked7, this] using own

theorem markRecS_nil (w : World) : Calls Try.prog 75 #[.slice none 0 0, .int .i64 1] w fun e w' => e = .returned (.int .i64 1) ∧ w' = w := by
  go_enter Try.func75, Try.ntmps75
  go_wp2
  go_loop [1, 5] (fun q i => i = .int .i64 0 ∧ q = .int .i64 1) (fun _ _ => 0)
  case atStart => exact ⟨rfl, rfl⟩
  case round =>
    obtain ⟨rfl, rfl⟩ := hrel
    go_wp2
    go_ret
    exact ⟨rfl, rfl⟩

set_option maxHeartbeats 2000000 in
theorem heldRecS_any (a : Option Addr) (n cp : Nat) (w : World) (h : CellsAt w a (n * 7) (rc7 (marks7 n))) (hn : n ≤ 1048579) :
    Calls Try.prog 76 #[.slice a n cp, .int .i64 1] w fun e w' => e = .returned (.int .i64 (1 + 7 * n)) ∧ w' = w := by
  go_enter Try.func76, Try.ntmps76
  go_wp2
  go_loop [1, 5] (fun q i => ∃ k : Nat, k ≤ n ∧ i = .int .i64 k ∧ q = .int .i64 (1 + 7 * (k : Int))) (fun _ i => n - (intOf i).toNat)
  case atStart => exact ⟨0, Nat.zero_le _, rfl, rfl⟩
  case round =>
    obtain ⟨k, hk, rfl, rfl⟩ := hrel
    by_cases hlt : k < n
    · obtain ⟨b, off, rfl, hx⟩ := h.rec hlt
      rw [marks7_at n k hlt] at hx
      obtain ⟨x0, x1, x2, x3, x4, x5, x6⟩ := hx
      simp only [mark7] at x0 x1 x2 x3 x4 x5 x6
      go_wp2
      go_round
      case rel => exact ⟨k + 1, by omega, by go_num, by go_num⟩
      case measure => simp [intOf]; omega
    · obtain rfl : k = n := by omega
      go_wp2
      go_ret
      exact ⟨rfl, rfl⟩
end Go.Proofs.Ytiommhbfbigjmaa
