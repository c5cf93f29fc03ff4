
/- Records in memory: seven cells each; compared, marked from any number on. -/
import Derived.Test.YtoijjjckdggglaaRowa
import Derived.Test.YtoijjjckdggglaaRecM
import Derived.Test.YtoijjjckdggglaaHTk
namespace Go.Proofs.Ytoijjjckdggglaa
open Go.RowKit

/-- Records as values: seven cells each. -/
def c7 (r : Ch.Rec) : List Value := [.int .i64 r.kd, .int .i64 r.tx, .int .i64 r.ky, .bool r.hd, .int .i64 r.ol, .bool r.hs, .int .i64 r.nw]

def rc7 (rs : List Ch.Rec) : List Value := rs.flatMap c7

theorem rc7_len (rs : List Ch.Rec) : (rc7 rs).length = rs.length * 7 := by
  induction rs with
  | nil => rfl
  | cons r rs ih => simp only [rc7, c7, List.flatMap_cons, List.length_append, List.length_cons, List.length_nil] at *; omega

theorem rc7_snoc (rs : List Ch.Rec) (r : Ch.Rec) : rc7 (rs ++ [r]) = rc7 rs ++ c7 r := by simp [rc7]

theorem rc7_at (rs : List Ch.Rec) (k j : Nat) (h : k < rs.length) (hj : j < 7) : (rc7 rs)[k * 7 + j]? = (c7 (rs.getD k Ch.Rec.zero))[j]? := by
  induction rs generalizing k with
  | nil => simp at h
  | cons r rs ih =>
    cases k with
    | zero =>
      simp only [rc7, List.flatMap_cons, Nat.zero_mul, Nat.zero_add]
      rw [List.getElem?_append_left (by simp [c7]; omega)]
      rfl
    | succ k =>
      have := ih k (by simpa using h)
      simp only [rc7, List.flatMap_cons] at *
      rw [List.getElem?_append_right (by simp [c7]; omega)]
      rw [show (k + 1) * 7 + j - (c7 r).length = k * 7 + j by simp [c7]; omega]
      simpa using this

theorem CellsAt.len7 {w : World} {a : Option Addr} {n : Nat} {rs : List Ch.Rec} (h : CellsAt w a (n * 7) (rc7 rs)) : Hid (n = rs.length) := by
  have := h.1
  rw [rc7_len] at this
  show _ = _
  omega

/-- A record's seven cells. -/
def At7 (w : World) (b o : Nat) (r : Ch.Rec) : Prop := w.cell? ⟨b, o, none⟩ = some (.int .i64 r.kd) ∧ w.cell? ⟨b, o + 1, none⟩ = some (.int .i64 r.tx) ∧ w.cell? ⟨b, o + 2, none⟩ = some (.int .i64 r.ky) ∧ w.cell? ⟨b, o + 3, none⟩ = some (.bool r.hd) ∧ w.cell? ⟨b, o + 4, none⟩ = some (.int .i64 r.ol) ∧ w.cell? ⟨b, o + 5, none⟩ = some (.bool r.hs) ∧ w.cell? ⟨b, o + 6, none⟩ = some (.int .i64 r.nw)

theorem CellsAt.rec {w : World} {a : Option Addr} {n : Nat} {rs : List Ch.Rec} (h : CellsAt w a (n * 7) (rc7 rs)) {k : Nat} (hk : k < n) :
    ∃ b off, a = some ⟨b, off, none⟩ ∧ At7 w b (off + k * 7) (rs.getD k Ch.Rec.zero) := by
  obtain ⟨b, off, ha, hc⟩ := h.2 (by omega)
  have hl := h.len7.out
  have key : ∀ j, j < 7 → w.cell? ⟨b, off + k * 7 + j, none⟩ = (c7 (rs.getD k Ch.Rec.zero))[j]? := fun j hj => by
    rw [Nat.add_assoc, hc _ (by omega), rc7_at rs k j (by omega) hj]
  exact ⟨b, off, ha, key 0 (by omega), key 1 (by omega), key 2 (by omega), key 3 (by omega), key 4 (by omega), key 5 (by omega), key 6 (by omega)⟩

set_option maxHeartbeats 400000 in
theorem eqRec_same (kd tx ky : Int) (hd : Bool) (ol : Int) (hs : Bool) (nw : Int) (w : World) :
    Calls Try.prog 41 #[.agg #[.int .i64 kd, .int .i64 tx, .int .i64 ky, .bool hd, .int .i64 ol, .bool hs, .int .i64 nw], .agg #[.int .i64 kd, .int .i64 tx, .int .i64 ky, .bool hd, .int .i64 ol, .bool hs, .int .i64 nw]] w fun e w' => e = .returned (.bool true) ∧ Below w.heap.size w w' := by
  have e0 : (kd != kd) = false := by simp
  have e1 : (tx != tx) = false := by simp
  have e2 : (ky != ky) = false := by simp
  have e3 : (hd != hd) = false := by simp
  have e4 : (ol != ol) = false := by simp
  have e5 : (hs != hs) = false := by simp
  have e6 : (nw != nw) = false := by simp
  go_enter Try.func41, Try.ntmps41
  go_wp2
  go_ret
  exact ⟨rfl, ((Below.refl _ _).alloc (Nat.le_refl _) _).alloc (by simp) _⟩

set_option linter.unusedSimpArgs false in
set_option maxHeartbeats 2000000 in
theorem eqRecS_same (a a' : Option Addr) (n cap cap' : Nat) (rs : List Ch.Rec) (w : World) (h : CellsAt w a (n * 7) (rc7 rs)) (h' : CellsAt w a' (n * 7) (rc7 rs)) (hn : n ≤ 1048576) :
    Calls Try.prog 14 #[.slice a n cap, .slice a' n cap'] w fun e w' => e = .returned (.bool true) ∧ Below w.heap.size w w' := by
  have hnn : ((n : Int) != n) = false := by simp
  go_enter Try.func14, Try.ntmps14
  go_wp2
  go_loopw [5] (fun i wr => ∃ k : Nat, k ≤ n ∧ i = .int .i64 k ∧ Below w.heap.size w wr) (fun i _ => n - (intOf i).toNat)
  case atStart => exact ⟨0, Nat.zero_le _, rfl, Below.refl _ _⟩
  case round =>
    obtain ⟨k, hk, rfl, hB⟩ := hrel
    by_cases hlt : k < n
    · obtain ⟨b, off, rfl, hx⟩ := (h.below hB).rec hlt
      obtain ⟨b', off', rfl, hy⟩ := (h'.below hB).rec hlt
      generalize rs.getD k Ch.Rec.zero = r at *
      obtain ⟨kd, tx, ky, hd, ol, hs, nw⟩ := r
      obtain ⟨x0, x1, x2, x3, x4, x5, x6⟩ := hx
      obtain ⟨y0, y1, y2, y3, y4, y5, y6⟩ := hy
      simp only at x0 x1 x2 x3 x4 x5 x6 y0 y1 y2 y3 y4 y5 y6
      have i1 : (k : Int) < (n : Int) := by omega
      go_wp2
      have HS : Hid (∀ W', Below wr.heap.size wr W' → W'.cell? ⟨b, off + k * 7, none⟩ = some (.int .i64 kd) ∧ W'.cell? ⟨b, off + k * 7 + 1, none⟩ = some (.int .i64 tx) ∧ W'.cell? ⟨b, off + k * 7 + 2, none⟩ = some (.int .i64 ky) ∧ W'.cell? ⟨b, off + k * 7 + 3, none⟩ = some (.bool hd) ∧ W'.cell? ⟨b, off + k * 7 + 4, none⟩ = some (.int .i64 ol) ∧ W'.cell? ⟨b, off + k * 7 + 5, none⟩ = some (.bool hs) ∧ W'.cell? ⟨b, off + k * 7 + 6, none⟩ = some (.int .i64 nw) ∧ W'.cell? ⟨b', off' + k * 7, none⟩ = some (.int .i64 kd) ∧ W'.cell? ⟨b', off' + k * 7 + 1, none⟩ = some (.int .i64 tx) ∧ W'.cell? ⟨b', off' + k * 7 + 2, none⟩ = some (.int .i64 ky) ∧ W'.cell? ⟨b', off' + k * 7 + 3, none⟩ = some (.bool hd) ∧ W'.cell? ⟨b', off' + k * 7 + 4, none⟩ = some (.int .i64 ol) ∧ W'.cell? ⟨b', off' + k * 7 + 5, none⟩ = some (.bool hs) ∧ W'.cell? ⟨b', off' + k * 7 + 6, none⟩ = some (.int .i64 nw) ∧ Below wr.heap.size wr W') := fun W' hb' => ⟨keep_cell hb' x0, keep_cell hb' x1, keep_cell hb' x2, keep_cell hb' x3, keep_cell hb' x4, keep_cell hb' x5, keep_cell hb' x6, keep_cell hb' y0, keep_cell hb' y1, keep_cell hb' y2, keep_cell hb' y3, keep_cell hb' y4, keep_cell hb' y5, keep_cell hb' y6, hb'⟩
      refine wp_region_noPanic ?_
      refine wp_region_held_drew (S := fun W' => W'.cell? ⟨b, off + k * 7, none⟩ = some (.int .i64 kd) ∧ W'.cell? ⟨b, off + k * 7 + 1, none⟩ = some (.int .i64 tx) ∧ W'.cell? ⟨b, off + k * 7 + 2, none⟩ = some (.int .i64 ky) ∧ W'.cell? ⟨b, off + k * 7 + 3, none⟩ = some (.bool hd) ∧ W'.cell? ⟨b, off + k * 7 + 4, none⟩ = some (.int .i64 ol) ∧ W'.cell? ⟨b, off + k * 7 + 5, none⟩ = some (.bool hs) ∧ W'.cell? ⟨b, off + k * 7 + 6, none⟩ = some (.int .i64 nw) ∧ W'.cell? ⟨b', off' + k * 7, none⟩ = some (.int .i64 kd) ∧ W'.cell? ⟨b', off' + k * 7 + 1, none⟩ = some (.int .i64 tx) ∧ W'.cell? ⟨b', off' + k * 7 + 2, none⟩ = some (.int .i64 ky) ∧ W'.cell? ⟨b', off' + k * 7 + 3, none⟩ = some (.bool hd) ∧ W'.cell? ⟨b', off' + k * 7 + 4, none⟩ = some (.int .i64 ol) ∧ W'.cell? ⟨b', off' + k * 7 + 5, none⟩ = some (.bool hs) ∧ W'.cell? ⟨b', off' + k * 7 + 6, none⟩ = some (.int .i64 nw) ∧ Below wr.heap.size wr W') (by kernel_rfl) (HS.out _ (Below.refl _ _).drew) (fun hH => ?_)
      refine hTake (i := 0) (v := ?_) rfl (by kernel_rfl) (by kernel_rfl) (by kernel_rfl) (by rfl) ?_ hH ?_
      rotate_left
      · intro W hW; (try dsimp only at hW); go_simp <;> with_reducible rfl
      simp only [Act.put, List.setIfInBounds_toArray, List.set_cons_zero, List.set_cons_succ]
      refine hTake (i := 1) (v := ?_) rfl (by kernel_rfl) (by kernel_rfl) (by kernel_rfl) (by rfl) ?_ hH ?_
      rotate_left
      · intro W hW; (try dsimp only at hW); go_simp <;> with_reducible rfl
      simp only [Act.put, List.setIfInBounds_toArray, List.set_cons_zero, List.set_cons_succ]
      refine hTake (i := 2) (v := ?_) rfl (by kernel_rfl) (by kernel_rfl) (by kernel_rfl) (by rfl) ?_ hH ?_
      rotate_left
      · intro W hW; (try dsimp only at hW); go_simp <;> with_reducible rfl
      simp only [Act.put, List.setIfInBounds_toArray, List.set_cons_zero, List.set_cons_succ]
      refine hTake (i := 3) (v := ?_) rfl (by kernel_rfl) (by kernel_rfl) (by kernel_rfl) (by rfl) ?_ hH ?_
      rotate_left
      · intro W hW; (try dsimp only at hW); go_simp <;> with_reducible rfl
      simp only [Act.put, List.setIfInBounds_toArray, List.set_cons_zero, List.set_cons_succ]
      refine hTake (i := 4) (v := ?_) rfl (by kernel_rfl) (by kernel_rfl) (by kernel_rfl) (by rfl) ?_ hH ?_
      rotate_left
      · intro W hW; (try dsimp only at hW); go_simp <;> with_reducible rfl
      simp only [Act.put, List.setIfInBounds_toArray, List.set_cons_zero, List.set_cons_succ]
      refine hTake (i := 5) (v := ?_) rfl (by kernel_rfl) (by kernel_rfl) (by kernel_rfl) (by rfl) ?_ hH ?_
      rotate_left
      · intro W hW; (try dsimp only at hW); go_simp <;> with_reducible rfl
      simp only [Act.put, List.setIfInBounds_toArray, List.set_cons_zero, List.set_cons_succ]
      refine hTake (i := 6) (v := ?_) rfl (by kernel_rfl) (by kernel_rfl) (by kernel_rfl) (by rfl) ?_ hH ?_
      rotate_left
      · intro W hW; (try dsimp only at hW); go_simp <;> with_reducible rfl
      simp only [Act.put, List.setIfInBounds_toArray, List.set_cons_zero, List.set_cons_succ]
      refine hTake (i := 7) (v := ?_) rfl (by kernel_rfl) (by kernel_rfl) (by kernel_rfl) (by rfl) ?_ hH ?_
      rotate_left
      · intro W hW; (try dsimp only at hW); go_simp <;> with_reducible rfl
      simp only [Act.put, List.setIfInBounds_toArray, List.set_cons_zero, List.set_cons_succ]
      refine wpAnyH_ready (rs := [8]) (by kernel_rfl) (by simp) ?_
      refine AllReadyH.cons rfl (fun K hK => ?_) AllReadyH.nil
      go_simp
      refine (eqRec_same _ _ _ _ _ _ _ _).mono ?_
      rintro e w1 ⟨rfl, b1⟩
      have b1A := hH.2.2.2.2.2.2.2.2.2.2.2.2.2.2.trans (b1.mono (by simp))
      go_wp2_with fail
      refine hK.out _ _ ?_ (fun hH => ?_)
      · exact HS.out _ b1A
      clear hK K
      refine hTake (i := 9) (v := ?_) rfl (by kernel_rfl) (by kernel_rfl) (by kernel_rfl) (by rfl) ?_ hH ?_
      rotate_left
      · intro W hW; (try dsimp only at hW); go_simp <;> with_reducible rfl
      simp only [Act.put, List.setIfInBounds_toArray, List.set_cons_zero, List.set_cons_succ]
      refine wpAnyH_done (by kernel_rfl) ?_ _
      refine NoPanic.normal ?_
      have bF := hB.trans (b1A.mono hB.size)
      clear hH HS
      go_wp2
      go_roundw
      case rel => exact ⟨k + 1, by omega, by go_num, bF⟩
      case measure => simp [intOf]; omega
    · obtain rfl : k = n := by omega
      go_wp2
      go_ret
      exact ⟨rfl, hB⟩

theorem rc7_set (rs : List Ch.Rec) (k : Nat) (r : Ch.Rec) (h : k < rs.length) :
    ((((((((rc7 rs).set (k * 7) (.int .i64 r.kd)).set (k * 7 + 1) (.int .i64 r.tx)).set (k * 7 + 2) (.int .i64 r.ky)).set (k * 7 + 3) (.bool r.hd)).set (k * 7 + 4) (.int .i64 r.ol)).set (k * 7 + 5) (.bool r.hs)).set (k * 7 + 6) (.int .i64 r.nw)) = rc7 (rs.set k r) := by
  induction rs generalizing k with
  | nil => simp at h
  | cons q rs ih =>
    cases k with
    | zero => simp [rc7, c7]
    | succ k =>
      have := ih k (by simpa using h)
      simp only [rc7, c7, List.flatMap_cons, List.set_cons_succ] at *
      rw [← this, show (k + 1) * 7 = k * 7 + 1 + 1 + 1 + 1 + 1 + 1 + 1 by omega]
      simp

theorem owns_stored7 {w : World} {base : Nat} {e : TypeId} {size g n cap : Nat} {xs : List Value} (h : w.ownsRow base e size (.slice (some ⟨g, 0, none⟩) n cap) n xs) (j : Nat) (v0 v1 v2 v3 v4 v5 v6 : Value) :
    (((((((w.setCell ⟨g, j, none⟩ v0).setCell ⟨g, j + 1, none⟩ v1).setCell ⟨g, j + 2, none⟩ v2).setCell ⟨g, j + 3, none⟩ v3).setCell ⟨g, j + 4, none⟩ v4).setCell ⟨g, j + 5, none⟩ v5).setCell ⟨g, j + 6, none⟩ v6).ownsRow base e size (.slice (some ⟨g, 0, none⟩) n cap) n (((((((xs.set j v0).set (j + 1) v1).set (j + 2) v2).set (j + 3) v3).set (j + 4) v4).set (j + 5) v5).set (j + 6) v6) ∧
    w.grownBy (((((((w.setCell ⟨g, j, none⟩ v0).setCell ⟨g, j + 1, none⟩ v1).setCell ⟨g, j + 2, none⟩ v2).setCell ⟨g, j + 3, none⟩ v3).setCell ⟨g, j + 4, none⟩ v4).setCell ⟨g, j + 5, none⟩ v5).setCell ⟨g, j + 6, none⟩ v6) (some g) := by
  have s0 := h.stored j v0
  have s1 := s0.1.stored (j + 1) v1
  have s2 := s1.1.stored (j + 2) v2
  have s3 := s2.1.stored (j + 3) v3
  have s4 := s3.1.stored (j + 4) v4
  have s5 := s4.1.stored (j + 5) v5
  have s6 := s5.1.stored (j + 6) v6
  exact ⟨s6.1, gr_trans (gr_trans (gr_trans (gr_trans (gr_trans (gr_trans s0.2 s1.2) s2.2) s3.2) s4.2) s5.2) s6.2⟩

/-- The marks that a law writes into records. -/
def mark7 (s : Int) (k : Nat) : Ch.Rec := ⟨s + 7 * (k : Int), s + 7 * (k : Int) + 1, s + 7 * (k : Int) + 1 + 1, (s + 7 * (k : Int) + 1 + 1 + 1) % 3 == 0, s + 7 * (k : Int) + 1 + 1 + 1 + 1, (s + 7 * (k : Int) + 1 + 1 + 1 + 1 + 1) % 3 == 0, s + 7 * (k : Int) + 1 + 1 + 1 + 1 + 1 + 1⟩

def marks7 (s : Int) (n : Nat) : List Ch.Rec := (List.range n).map (mark7 s)

theorem marks7_len (s : Int) (n : Nat) : (marks7 s n).length = n := by simp [marks7]

theorem marks7_snoc (s : Int) (n : Nat) : marks7 s (n + 1) = marks7 s n ++ [mark7 s n] := by simp [marks7, List.range_succ]

theorem marks7_at (s : Int) (n k : Nat) (h : k < n) : (marks7 s n).getD k Ch.Rec.zero = mark7 s k := by simp [marks7, List.getD, h]

def marked7 (s : Int) (rs : List Ch.Rec) (k : Nat) : List Ch.Rec := marks7 s k ++ rs.drop k

theorem marked7_set (s : Int) (rs : List Ch.Rec) (k : Nat) (h : k < rs.length) :
    (((((((rc7 (marked7 s rs k)).set (k * 7) (.int .i64 (s + 7 * (k : Int)))).set (k * 7 + 1) (.int .i64 (s + 7 * (k : Int) + 1))).set (k * 7 + 2) (.int .i64 (s + 7 * (k : Int) + 1 + 1))).set (k * 7 + 3) (.bool ((s + 7 * (k : Int) + 1 + 1 + 1) % 3 == 0))).set (k * 7 + 4) (.int .i64 (s + 7 * (k : Int) + 1 + 1 + 1 + 1))).set (k * 7 + 5) (.bool ((s + 7 * (k : Int) + 1 + 1 + 1 + 1 + 1) % 3 == 0))).set (k * 7 + 6) (.int .i64 (s + 7 * (k : Int) + 1 + 1 + 1 + 1 + 1 + 1)) = rc7 (marked7 s rs (k + 1)) := by
  have := rc7_set (marked7 s rs k) k (mark7 s k) (by simp [marked7, marks7_len]; omega)
  rw [show rc7 (marked7 s rs (k + 1)) = rc7 ((marked7 s rs k).set k (mark7 s k)) by unfold marked7; rw [Ch.set_mid _ _ _ _ (marks7_len s k) h, marks7_snoc], ← this]
  rfl

set_option maxHeartbeats 2000000 in
theorem markRecS_some (s : Int) (B g n cp : Nat) (rs : List Ch.Rec) (w : World) (hs0 : 0 < s) (hs1 : s ≤ 1099511627776) (hown : w.ownsRow B 54 7 (.slice (some ⟨g, 0, none⟩) n cp) n (rc7 rs)) (hn : n ≤ 1048579) :
    Calls Try.prog 16 #[.slice (some ⟨g, 0, none⟩) n cp, .int .i64 s] w fun e w' => e = .returned (.int .i64 (s + 7 * n)) ∧ w'.ownsRow B 54 7 (.slice (some ⟨g, 0, none⟩) n cp) n (rc7 (marks7 s n)) ∧ w.grownBy w' (some g) := by
  have HL := (owns_cells hown).len7
  go_enter Try.func16, Try.ntmps16
  go_wp2
  go_loopw [1, 5] (fun q i wr => ∃ k : Nat, k ≤ n ∧ i = .int .i64 k ∧ q = .int .i64 (s + 7 * (k : Int)) ∧ wr.ownsRow B 54 7 (.slice (some ⟨g, 0, none⟩) n cp) n (rc7 (marked7 s rs k)) ∧ w.grownBy wr (some g)) (fun _ i _ => n - (intOf i).toNat)
  case atStart => exact ⟨0, Nat.zero_le _, rfl, by simp, by simpa [marked7, marks7] using hown, ⟨rfl, rfl, rfl, Nat.le_refl _, fun _ _ _ => rfl⟩⟩
  case round =>
    obtain ⟨k, hk, rfl, rfl, own, gr⟩ := hrel
    by_cases hlt : k < n
    · have hf0 := own.frozenAt (k * 7)
      have hf1 := own.frozenAt (k * 7 + 1)
      have hf2 := own.frozenAt (k * 7 + 2)
      have hf3 := own.frozenAt (k * 7 + 3)
      have hf4 := own.frozenAt (k * 7 + 4)
      have hf5 := own.frozenAt (k * 7 + 5)
      have hf6 := own.frozenAt (k * 7 + 6)
      obtain ⟨u0, hd0⟩ := owns_some own (j := k * 7) (by omega)
      obtain ⟨u1, hd1⟩ := owns_some own (j := k * 7 + 1) (by omega)
      obtain ⟨u2, hd2⟩ := owns_some own (j := k * 7 + 2) (by omega)
      obtain ⟨u3, hd3⟩ := owns_some own (j := k * 7 + 3) (by omega)
      obtain ⟨u4, hd4⟩ := owns_some own (j := k * 7 + 4) (by omega)
      obtain ⟨u5, hd5⟩ := owns_some own (j := k * 7 + 5) (by omega)
      obtain ⟨u6, hd6⟩ := owns_some own (j := k * 7 + 6) (by omega)
      have HS := hid (marked7_set s rs k (by have := HL.out; omega))
      go_wp2
      go_roundw
      case rel =>
        refine ⟨k + 1, by omega, by go_num, by go_num, ?_, ?_⟩
        · rw [← HS.out]; exact (owns_stored7 own _ _ _ _ _ _ _ _).1
        · exact gr_trans gr (owns_stored7 own _ _ _ _ _ _ _ _).2
      case measure => simp [intOf]; omega
    · obtain rfl : k = n := by omega
      go_wp2
      go_ret
      refine ⟨rfl, ?_, gr⟩
      have := HL.out
      simpa [marked7, this] using own

theorem markRecS_nil (s : Int) (w : World) : Calls Try.prog 16 #[.slice none 0 0, .int .i64 s] w fun e w' => e = .returned (.int .i64 s) ∧ w' = w := by
  go_enter Try.func16, Try.ntmps16
  go_wp2
  go_loop [1, 5] (fun q i => i = .int .i64 0 ∧ q = .int .i64 s) (fun _ _ => 0)
  case atStart => exact ⟨rfl, rfl⟩
  case round =>
    obtain ⟨rfl, rfl⟩ := hrel
    go_wp2
    go_ret
    exact ⟨rfl, rfl⟩

theorem markRecS_any (s : Int) (B n : Nat) (a : Option Addr) (cap : Nat) (rs : List Ch.Rec) (w : World) (hs0 : 0 < s) (hs1 : s ≤ 1099511627776) (hown : w.ownsRow B 54 7 (.slice a n cap) n (rc7 rs)) (hn : n ≤ 1048579) :
    Calls Try.prog 16 #[.slice a n cap, .int .i64 s] w fun e w' => e = .returned (.int .i64 (s + 7 * n)) ∧ w'.ownsRow B 54 7 (.slice a n cap) n (rc7 (marks7 s n)) ∧ w.grownBy w' (Value.slice a n cap).ownBlock := by
  rcases hown.2 with ⟨hv, h0⟩ | ⟨g, cp, cur, hv, _⟩
  · simp only [Value.slice.injEq] at hv
    obtain ⟨rfl, rfl, rfl⟩ := hv
    refine (markRecS_nil s w).mono ?_
    rintro e w1 ⟨rfl, rfl⟩
    exact ⟨by simp, World.ownsRow_nil _ _ _ _, ⟨rfl, rfl, rfl, Nat.le_refl _, fun _ _ _ => rfl⟩⟩
  · simp only [Value.slice.injEq, true_and] at hv
    obtain ⟨rfl, rfl⟩ := hv
    exact markRecS_some s B g n cap rs w hs0 hs1 hown hn
end Go.Proofs.Ytoijjjckdggglaa
