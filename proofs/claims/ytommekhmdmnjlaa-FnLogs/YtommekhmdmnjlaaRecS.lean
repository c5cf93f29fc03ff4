
/- ReadRecs of the model; records held against records; marks of records. -/
import Derived.Test.YtommekhmdmnjlaaReadI
namespace Go.Proofs.Ytommekhmdmnjlaa
open Go.RowKit

/-- The code of ReadRecs, how much it used, what it read. -/
def Ch.rd (zs : List Int) : Int × Nat × List Ch.Rec := if 4000 < zs.length then (2, 0, []) else (0, Ch.used zs, Ch.reads zs)

theorem implRead_any (a : Option Addr) (n cap : Nat) (zs : List Int) (w : World) (h : CellsAt w a n (bts zs)) (hb : IsB zs) (hn : n ≤ 1048576) (hcap : n ≤ cap) :
    Calls Try.prog 14 #[.slice a n cap] w fun e w' => ∃ a' m c', e = .returned (.agg #[.int .i64 (Ch.rd zs).1, .int .i64 (Ch.rd zs).2.1, .slice a' m c']) ∧ m ≤ 800 ∧ w'.ownsRow w.heap.size 38 7 (.slice a' m c') m (rc7 (Ch.rd zs).2.2) ∧ Below w.heap.size w w' := by
  have hl := h.len.out
  by_cases hbig : 4000 < n
  · have e : Ch.rd zs = (2, 0, []) := by unfold Ch.rd; rw [if_pos (by omega)]
    rw [e]
    refine (implRead_big a n cap w hbig (by omega)).mono ?_
    rintro e w' ⟨rfl, b⟩
    exact ⟨none, 0, 0, rfl, by omega, World.ownsRow_nil _ _ _ _, b⟩
  · have e : Ch.rd zs = (0, Ch.used zs, Ch.reads zs) := by unfold Ch.rd; rw [if_neg (by omega)]
    rw [e]
    refine (implRead_ok a n cap zs w h hb (by omega) hcap).mono ?_
    rintro e w' ⟨a', c', rfl, own, b⟩
    have := Ch.reads_le zs
    have := Ch.used_le zs
    exact ⟨a', _, c', rfl, by omega, own, b⟩

/-! Records in memory, one by one -/

theorem rc7_at (rs : List Ch.Rec) (k j : Nat) (h : k < rs.length) (hj : j < 7) : (rc7 rs)[k * 7 + j]? = (c7 (rs.getD k Ch.Rec.zero))[j]? := by
  induction rs generalizing k with
  | nil => simp at h
  | cons r rs ih =>
    cases k with
    | zero =>
      simp only [rc7, List.flatMap_cons, Nat.zero_mul, Nat.zero_add]
      rw [List.getElem?_append_left (by simp [c7]; omega)]
      rfl
    | succ k =>
      have := ih k (by simpa using h)
      simp only [rc7, List.flatMap_cons] at *
      rw [List.getElem?_append_right (by simp [c7]; omega)]
      rw [show (k + 1) * 7 + j - (c7 r).length = k * 7 + j by simp [c7]; omega]
      simpa using this

theorem CellsAt.len7 {w : World} {a : Option Addr} {n : Nat} {rs : List Ch.Rec} (h : CellsAt w a (n * 7) (rc7 rs)) : Hid (n = rs.length) := by
  have := h.1
  rw [rc7_len] at this
  show _ = _
  omega

/-- A record's seven cells. -/
def At7 (w : World) (b o : Nat) (r : Ch.Rec) : Prop := w.cell? ⟨b, o, none⟩ = some (.int .i64 r.kd) ∧ w.cell? ⟨b, o + 1, none⟩ = some (.int .i64 r.tx) ∧ w.cell? ⟨b, o + 2, none⟩ = some (.int .i64 r.ky) ∧ w.cell? ⟨b, o + 3, none⟩ = some (.bool r.hd) ∧ w.cell? ⟨b, o + 4, none⟩ = some (.int .i64 r.ol) ∧ w.cell? ⟨b, o + 5, none⟩ = some (.bool r.hs) ∧ w.cell? ⟨b, o + 6, none⟩ = some (.int .i64 r.nw)

theorem CellsAt.rec {w : World} {a : Option Addr} {n : Nat} {rs : List Ch.Rec} (h : CellsAt w a (n * 7) (rc7 rs)) {k : Nat} (hk : k < n) :
    ∃ b off, a = some ⟨b, off, none⟩ ∧ At7 w b (off + k * 7) (rs.getD k Ch.Rec.zero) := by
  obtain ⟨b, off, ha, hc⟩ := h.2 (by omega)
  have hl := h.len7.out
  have key : ∀ j, j < 7 → w.cell? ⟨b, off + k * 7 + j, none⟩ = (c7 (rs.getD k Ch.Rec.zero))[j]? := fun j hj => by
    rw [Nat.add_assoc, hc _ (by omega), rc7_at rs k j (by omega) hj]
  exact ⟨b, off, ha, key 0 (by omega), key 1 (by omega), key 2 (by omega), key 3 (by omega), key 4 (by omega), key 5 (by omega), key 6 (by omega)⟩

end Go.Proofs.Ytommekhmdmnjlaa
