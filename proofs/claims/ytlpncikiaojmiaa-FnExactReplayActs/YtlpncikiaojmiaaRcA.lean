
/- Records in memory: seven cells each; compared, marked from any number on. -/
import Derived.Test.YtlpncikiaojmiaaRowa
import Derived.Test.YtlpncikiaojmiaaRecM
import Derived.Test.YtlpncikiaojmiaaHTk
namespace Go.Proofs.Ytlpncikiaojmiaa
open Go.RowKit

/-- Records as values: seven cells each. -/
def c7 (r : Ch.Rec) : List Value := [.int .i64 r.kd, .int .i64 r.tx, .int .i64 r.ky, .bool r.hd, .int .i64 r.ol, .bool r.hs, .int .i64 r.nw]

def rc7 (rs : List Ch.Rec) : List Value := rs.flatMap c7

theorem rc7_len (rs : List Ch.Rec) : (rc7 rs).length = rs.length * 7 := by
  induction rs with
  | nil => rfl
  | cons r rs ih => simp only [rc7, c7, List.flatMap_cons, List.length_append, List.length_cons, List.length_nil] at *; omega

theorem rc7_snoc (rs : List Ch.Rec) (r : Ch.Rec) : rc7 (rs ++ [r]) = rc7 rs ++ c7 r := by simp [rc7]

theorem rc7_at (rs : List Ch.Rec) (k j : Nat) (h : k < rs.length) (hj : j < 7) : (rc7 rs)[k * 7 + j]? = (c7 (rs.getD k Ch.Rec.zero))[j]? := by
  induction rs generalizing k with
  | nil => simp at h
  | cons r rs ih =>
    cases k with
    | zero =>
      simp only [rc7, List.flatMap_cons, Nat.zero_mul, Nat.zero_add]
      rw [List.getElem?_append_left (by simp [c7]; omega)]
      rfl
    | succ k =>
      have := ih k (by simpa using h)
      simp only [rc7, List.flatMap_cons] at *
      rw [List.getElem?_append_right (by simp [c7]; omega)]
      rw [show (k + 1) * 7 + j - (c7 r).length = k * 7 + j by simp [c7]; omega]
      simpa using this

theorem CellsAt.len7 {w : World} {a : Option Addr} {n : Nat} {rs : List Ch.Rec} (h : CellsAt w a (n * 7) (rc7 rs)) : Hid (n = rs.length) := by
  have := h.1
  rw [rc7_len] at this
  show _ = _
  omega

/-- A record's seven cells. -/
def At7 (w : World) (b o : Nat) (r : Ch.Rec) : Prop := w.cell? ⟨b, o, none⟩ = some (.int .i64 r.kd) ∧ w.cell? ⟨b, o + 1, none⟩ = some (.int .i64 r.tx) ∧ w.cell? ⟨b, o + 2, none⟩ = some (.int .i64 r.ky) ∧ w.cell? ⟨b, o + 3, none⟩ = some (.bool r.hd) ∧ w.cell? ⟨b, o + 4, none⟩ = some (.int .i64 r.ol) ∧ w.cell? ⟨b, o + 5, none⟩ = some (.bool r.hs) ∧ w.cell? ⟨b, o + 6, none⟩ = some (.int .i64 r.nw)

theorem CellsAt.rec {w : World} {a : Option Addr} {n : Nat} {rs : List Ch.Rec} (h : CellsAt w a (n * 7) (rc7 rs)) {k : Nat} (hk : k < n) :
    ∃ b off, a = some ⟨b, off, none⟩ ∧ At7 w b (off + k * 7) (rs.getD k Ch.Rec.zero) := by
  obtain ⟨b, off, ha, hc⟩ := h.2 (by omega)
  have hl := h.len7.out
  have key : ∀ j, j < 7 → w.cell? ⟨b, off + k * 7 + j, none⟩ = (c7 (rs.getD k Ch.Rec.zero))[j]? := fun j hj => by
    rw [Nat.add_assoc, hc _ (by omega), rc7_at rs k j (by omega) hj]
  exact ⟨b, off, ha, key 0 (by omega), key 1 (by omega), key 2 (by omega), key 3 (by omega), key 4 (by omega), key 5 (by omega), key 6 (by omega)⟩

theorem rc7_set (rs : List Ch.Rec) (k : Nat) (r : Ch.Rec) (h : k < rs.length) :
    ((((((((rc7 rs).set (k * 7) (.int .i64 r.kd)).set (k * 7 + 1) (.int .i64 r.tx)).set (k * 7 + 2) (.int .i64 r.ky)).set (k * 7 + 3) (.bool r.hd)).set (k * 7 + 4) (.int .i64 r.ol)).set (k * 7 + 5) (.bool r.hs)).set (k * 7 + 6) (.int .i64 r.nw)) = rc7 (rs.set k r) := by
  induction rs generalizing k with
  | nil => simp at h
  | cons q rs ih =>
    cases k with
    | zero => simp [rc7, c7]
    | succ k =>
      have := ih k (by simpa using h)
      simp only [rc7, c7, List.flatMap_cons, List.set_cons_succ] at *
      rw [← this, show (k + 1) * 7 = k * 7 + 1 + 1 + 1 + 1 + 1 + 1 + 1 by omega]
      simp

theorem owns_stored7 {w : World} {base : Nat} {e : TypeId} {size g n cap : Nat} {xs : List Value} (h : w.ownsRow base e size (.slice (some ⟨g, 0, none⟩) n cap) n xs) (j : Nat) (v0 v1 v2 v3 v4 v5 v6 : Value) :
    (((((((w.setCell ⟨g, j, none⟩ v0).setCell ⟨g, j + 1, none⟩ v1).setCell ⟨g, j + 2, none⟩ v2).setCell ⟨g, j + 3, none⟩ v3).setCell ⟨g, j + 4, none⟩ v4).setCell ⟨g, j + 5, none⟩ v5).setCell ⟨g, j + 6, none⟩ v6).ownsRow base e size (.slice (some ⟨g, 0, none⟩) n cap) n (((((((xs.set j v0).set (j + 1) v1).set (j + 2) v2).set (j + 3) v3).set (j + 4) v4).set (j + 5) v5).set (j + 6) v6) ∧
    w.grownBy (((((((w.setCell ⟨g, j, none⟩ v0).setCell ⟨g, j + 1, none⟩ v1).setCell ⟨g, j + 2, none⟩ v2).setCell ⟨g, j + 3, none⟩ v3).setCell ⟨g, j + 4, none⟩ v4).setCell ⟨g, j + 5, none⟩ v5).setCell ⟨g, j + 6, none⟩ v6) (some g) := by
  have s0 := h.stored j v0
  have s1 := s0.1.stored (j + 1) v1
  have s2 := s1.1.stored (j + 2) v2
  have s3 := s2.1.stored (j + 3) v3
  have s4 := s3.1.stored (j + 4) v4
  have s5 := s4.1.stored (j + 5) v5
  have s6 := s5.1.stored (j + 6) v6
  exact ⟨s6.1, gr_trans (gr_trans (gr_trans (gr_trans (gr_trans (gr_trans s0.2 s1.2) s2.2) s3.2) s4.2) s5.2) s6.2⟩

/-- The marks that a law writes into records. -/
def mark7 (s : Int) (k : Nat) : Ch.Rec := ⟨s + 7 * (k : Int), s + 7 * (k : Int) + 1, s + 7 * (k : Int) + 1 + 1, (s + 7 * (k : Int) + 1 + 1 + 1) % 3 == 0, s + 7 * (k : Int) + 1 + 1 + 1 + 1, (s + 7 * (k : Int) + 1 + 1 + 1 + 1 + 1) % 3 == 0, s + 7 * (k : Int) + 1 + 1 + 1 + 1 + 1 + 1⟩

def marks7 (s : Int) (n : Nat) : List Ch.Rec := (List.range n).map (mark7 s)

theorem marks7_len (s : Int) (n : Nat) : (marks7 s n).length = n := by simp [marks7]

theorem marks7_snoc (s : Int) (n : Nat) : marks7 s (n + 1) = marks7 s n ++ [mark7 s n] := by simp [marks7, List.range_succ]

theorem marks7_at (s : Int) (n k : Nat) (h : k < n) : (marks7 s n).getD k Ch.Rec.zero = mark7 s k := by simp [marks7, List.getD, h]

def marked7 (s : Int) (rs : List Ch.Rec) (k : Nat) : List Ch.Rec := marks7 s k ++ rs.drop k

theorem marked7_set (s : Int) (rs : List Ch.Rec) (k : Nat) (h : k < rs.length) :
    (((((((rc7 (marked7 s rs k)).set (k * 7) (.int .i64 (s + 7 * (k : Int)))).set (k * 7 + 1) (.int .i64 (s + 7 * (k : Int) + 1))).set (k * 7 + 2) (.int .i64 (s + 7 * (k : Int) + 1 + 1))).set (k * 7 + 3) (.bool ((s + 7 * (k : Int) + 1 + 1 + 1) % 3 == 0))).set (k * 7 + 4) (.int .i64 (s + 7 * (k : Int) + 1 + 1 + 1 + 1))).set (k * 7 + 5) (.bool ((s + 7 * (k : Int) + 1 + 1 + 1 + 1 + 1) % 3 == 0))).set (k * 7 + 6) (.int .i64 (s + 7 * (k : Int) + 1 + 1 + 1 + 1 + 1 + 1)) = rc7 (marked7 s rs (k + 1)) := by
  have := rc7_set (marked7 s rs k) k (mark7 s k) (by simp [marked7, marks7_len]; omega)
  rw [show rc7 (marked7 s rs (k + 1)) = rc7 ((marked7 s rs k).set k (mark7 s k)) by unfold marked7; rw [Ch.set_mid _ _ _ _ (marks7_len s k) h, marks7_snoc], ← this]
  rfl

end Go.Proofs.Ytlpncikiaojmiaa
