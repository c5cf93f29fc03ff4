/- ReadRecs of the model; records held against records; marks of records. -/
import Derived.Test.YtiommhbfbigjmaaReadI
namespace Go.Proofs.Ytiommhbfbigjmaa
open Go.RowKit

set_option maxHeartbeats 400000 in
theorem specRead_big (a : Option Addr) (n cap : Nat) (w : World) (hn : 4000 < n) (hm : n ≤ 9223372036854775807) :
    Calls Try.prog 30 #[.slice a n cap] w fun e w' => e = .returned (.agg #[.int .i64 2, .int .i64 0, .slice none 0 0]) ∧ Below w.heap.size w w' := by
  have i1 : (4000 : Int) < (n : Int) := by omega
  go_enter Try.func30, Try.ntmps30
  go_wp2_with fail
  exact bodyPost_ret (v := .agg #[.int .i64 2, .int .i64 0, .slice none 0 0]) (by simp [results, Try.results30, go_sem]) rfl ⟨rfl, (Below.refl _ _).alloc (Nat.le_refl _) _⟩

set_option maxHeartbeats 400000 in
theorem specRead_ok (a : Option Addr) (n cap : Nat) (zs : List Int) (w : World) (h : CellsAt w a n (bts zs)) (hb : IsB zs) (hn : n ≤ 4000) (hcap : n ≤ cap) :
    Calls Try.prog 30 #[.slice a n cap] w fun e w' => ∃ a' c', e = .returned (.agg #[.int .i64 0, .int .i64 (Ch.used zs), .slice a' (Ch.reads zs).length c']) ∧ w'.ownsRow w.heap.size 26 7 (.slice a' (Ch.reads zs).length c') (Ch.reads zs).length (rc7 (Ch.reads zs)) ∧ Below w.heap.size w w' := by
  have i1 : ¬ (4000 : Int) < (n : Int) := by omega
  have b0 : Below w.heap.size w (w.alloc (.cells #[.int .i64 0, .int .i64 0, .slice none 0 0] 34)) := (Below.refl _ _).alloc (Nat.le_refl _) _
  go_enter Try.func30, Try.ntmps30
  go_wp2_with fail
  refine (l2Read_any a n cap zs _ (h.below b0) hb (by omega) hcap).mono ?_
  rintro e w1 ⟨g, c, rfl, own, b1⟩
  have x0 := box_cell b1 0
  have x1 := box_cell b1 1
  have x2 := box_cell b1 2
  have f0 := b1.frozen (p := ⟨w.heap.size, 0, none⟩) (by simp)
  have f1 := b1.frozen (p := ⟨w.heap.size, 1, none⟩) (by simp)
  have f2 := b1.frozen (p := ⟨w.heap.size, 2, none⟩) (by simp)
  simp [go_sem] at x0 x1 x2 f0 f1 f2
  have hg := owns_bounds own
  simp at hg
  generalize hq : (Ch.reads zs).length = q at *
  go_wp2
  refine bodyPost_ret (v := .agg #[.int .i64 0, .int .i64 (Ch.used zs), .slice (some ⟨g, 0, none⟩) q c]) (by simp [results, Try.results30, go_sem, x0, x1, x2]) rfl ⟨some ⟨g, 0, none⟩, c, by rw [hq], ?_, (((below_box b1).setCell (p := ⟨w.heap.size, 0, none⟩) (Nat.le_refl _) _).setCell (p := ⟨w.heap.size, 1, none⟩) (Nat.le_refl _) _).setCell (p := ⟨w.heap.size, 2, none⟩) (Nat.le_refl _) _⟩
  rw [hq]
  exact owns_base (ownsRow_setCell_below (ownsRow_setCell_below (ownsRow_setCell_below own (by simp) _) (by simp) _) (by simp) _) (by simp)

/-- The code of ReadRecs, how much it used, what it read. -/
def Ch.rd (zs : List Int) : Int × Nat × List Ch.Rec := if 4000 < zs.length then (2, 0, []) else (0, Ch.used zs, Ch.reads zs)

theorem implRead_any (a : Option Addr) (n cap : Nat) (zs : List Int) (w : World) (h : CellsAt w a n (bts zs)) (hb : IsB zs) (hn : n ≤ 1048576) (hcap : n ≤ cap) :
    Calls Try.prog 18 #[.slice a n cap] w fun e w' => ∃ a' m c', e = .returned (.agg #[.int .i64 (Ch.rd zs).1, .int .i64 (Ch.rd zs).2.1, .slice a' m c']) ∧ m ≤ 800 ∧ w'.ownsRow w.heap.size 26 7 (.slice a' m c') m (rc7 (Ch.rd zs).2.2) ∧ Below w.heap.size w w' := by
  have hl := h.len.out
  by_cases hbig : 4000 < n
  · have e : Ch.rd zs = (2, 0, []) := by unfold Ch.rd; rw [if_pos (by omega)]
    rw [e]
    refine (implRead_big a n cap w hbig (by omega)).mono ?_
    rintro e w' ⟨rfl, b⟩
    exact ⟨none, 0, 0, rfl, by omega, World.ownsRow_nil _ _ _ _, b⟩
  · have e : Ch.rd zs = (0, Ch.used zs, Ch.reads zs) := by unfold Ch.rd; rw [if_neg (by omega)]
    rw [e]
    refine (implRead_ok a n cap zs w h hb (by omega) hcap).mono ?_
    rintro e w' ⟨a', c', rfl, own, b⟩
    have := Ch.reads_le zs
    have := Ch.used_le zs
    exact ⟨a', _, c', rfl, by omega, own, b⟩

theorem specRead_any (a : Option Addr) (n cap : Nat) (zs : List Int) (w : World) (h : CellsAt w a n (bts zs)) (hb : IsB zs) (hn : n ≤ 1048576) (hcap : n ≤ cap) :
    Calls Try.prog 30 #[.slice a n cap] w fun e w' => ∃ a' m c', e = .returned (.agg #[.int .i64 (Ch.rd zs).1, .int .i64 (Ch.rd zs).2.1, .slice a' m c']) ∧ m ≤ 800 ∧ w'.ownsRow w.heap.size 26 7 (.slice a' m c') m (rc7 (Ch.rd zs).2.2) ∧ Below w.heap.size w w' := by
  have hl := h.len.out
  by_cases hbig : 4000 < n
  · have e : Ch.rd zs = (2, 0, []) := by unfold Ch.rd; rw [if_pos (by omega)]
    rw [e]
    refine (specRead_big a n cap w hbig (by omega)).mono ?_
    rintro e w' ⟨rfl, b⟩
    exact ⟨none, 0, 0, rfl, by omega, World.ownsRow_nil _ _ _ _, b⟩
  · have e : Ch.rd zs = (0, Ch.used zs, Ch.reads zs) := by unfold Ch.rd; rw [if_neg (by omega)]
    rw [e]
    refine (specRead_ok a n cap zs w h hb (by omega) hcap).mono ?_
    rintro e w' ⟨a', c', rfl, own, b⟩
    have := Ch.reads_le zs
    have := Ch.used_le zs
    exact ⟨a', _, c', rfl, by omega, own, b⟩

/-! Records in memory, one by one -/

theorem rc7_at (rs : List Ch.Rec) (k j : Nat) (h : k < rs.length) (hj : j < 7) : (rc7 rs)[k * 7 + j]? = (c7 (rs.getD k Ch.Rec.zero))[j]? := by
  induction rs generalizing k with
  | nil => simp at h
  | cons r rs ih =>
    cases k with
    | zero =>
      simp only [rc7, List.flatMap_cons, Nat.zero_mul, Nat.zero_add]
      rw [List.getElem?_append_left (by simp [c7]; omega)]
      rfl
    | succ k =>
      have := ih k (by simpa using h)
      simp only [rc7, List.flatMap_cons] at *
      rw [List.getElem?_append_right (by simp [c7]; omega)]
      rw [show (k + 1) * 7 + j - (c7 r).length = k * 7 + j by simp [c7]; omega]
      simpa using this

theorem CellsAt.len7 {w : World} {a : Option Addr} {n : Nat} {rs : List Ch.Rec} (h : CellsAt w a (n * 7) (rc7 rs)) : Hid (n = rs.length) := by
  have := h.1
  rw [rc7_len] at this
  show _ = _
  omega

/-- A record's seven cells. -/
def At7 (w : World) (b o : Nat) (r : Ch.Rec) : Prop := w.cell? ⟨b, o, none⟩ = some (.int .i64 r.kd) ∧ w.cell? ⟨b, o + 1, none⟩ = some (.int .i64 r.tx) ∧ w.cell? ⟨b, o + 2, none⟩ = some (.int .i64 r.ky) ∧ w.cell? ⟨b, o + 3, none⟩ = some (.bool r.hd) ∧ w.cell? ⟨b, o + 4, none⟩ = some (.int .i64 r.ol) ∧ w.cell? ⟨b, o + 5, none⟩ = some (.bool r.hs) ∧ w.cell? ⟨b, o + 6, none⟩ = some (.int .i64 r.nw)

theorem CellsAt.rec {w : World} {a : Option Addr} {n : Nat} {rs : List Ch.Rec} (h : CellsAt w a (n * 7) (rc7 rs)) {k : Nat} (hk : k < n) :
    ∃ b off, a = some ⟨b, off, none⟩ ∧ At7 w b (off + k * 7) (rs.getD k Ch.Rec.zero) := by
  obtain ⟨b, off, ha, hc⟩ := h.2 (by omega)
  have hl := h.len7.out
  have key : ∀ j, j < 7 → w.cell? ⟨b, off + k * 7 + j, none⟩ = (c7 (rs.getD k Ch.Rec.zero))[j]? := fun j hj => by
    rw [Nat.add_assoc, hc _ (by omega), rc7_at rs k j (by omega) hj]
  exact ⟨b, off, ha, key 0 (by omega), key 1 (by omega), key 2 (by omega), key 3 (by omega), key 4 (by omega), key 5 (by omega), key 6 (by omega)⟩

set_option maxHeartbeats 400000 in
theorem eqRec_same (kd tx ky : Int) (hd : Bool) (ol : Int) (hs : Bool) (nw : Int) (w : World) :
    Calls Try.prog 91 #[.agg #[.int .i64 kd, .int .i64 tx, .int .i64 ky, .bool hd, .int .i64 ol, .bool hs, .int .i64 nw], .agg #[.int .i64 kd, .int .i64 tx, .int .i64 ky, .bool hd, .int .i64 ol, .bool hs, .int .i64 nw]] w fun e w' => e = .returned (.bool true) ∧ Below w.heap.size w w' := by
  have e0 : (kd != kd) = false := by simp
  have e1 : (tx != tx) = false := by simp
  have e2 : (ky != ky) = false := by simp
  have e3 : (hd != hd) = false := by simp
  have e4 : (ol != ol) = false := by simp
  have e5 : (hs != hs) = false := by simp
  have e6 : (nw != nw) = false := by simp
  go_enter Try.func91, Try.ntmps91
  go_wp2
  go_ret
  exact ⟨rfl, ((Below.refl _ _).alloc (Nat.le_refl _) _).alloc (by simp) _⟩
end Go.Proofs.Ytiommhbfbigjmaa
