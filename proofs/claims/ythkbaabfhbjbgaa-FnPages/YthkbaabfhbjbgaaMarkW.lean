/- Walks of the law's own marks: what is written into a list, and read back. -/
import Derived.Test.YthkbaabfhbjbgaaRowsW
import Derived.Test.YthkbaabfhbjbgaaByteW
namespace Go.Proofs.Ythkbaabfhbjbgaa
open Go.RowKit

namespace Ch
/-- The marks that a law writes into bytes: 1, 2, .. modulo 256. -/
def marks (n : Nat) : List Int := (List.range n).map fun (i : Nat) => (1 + (i : Int)) % 256
theorem marks_len (n : Nat) : (marks n).length = n := by simp [marks]
theorem marks_snoc (n : Nat) : marks (n + 1) = marks n ++ [(1 + (n : Int)) % 256] := by simp [marks, List.range_succ]
theorem marks_at (n k : Nat) (h : k < n) : (marks n).getD k 0 = (1 + (k : Int)) % 256 := by simp [marks, List.getD, h]
theorem set_mid {α : Type} (l : List α) (zs : List α) (k : Nat) (v : α) (hl : l.length = k) (h : k < zs.length) : (l ++ zs.drop k).set k v = (l ++ [v]) ++ zs.drop (k + 1) := by
  rw [List.set_append_right _ _ (by omega), hl, Nat.sub_self, List.drop_eq_getElem_cons h, List.set_cons_zero]
  simp
end Ch

theorem hid {p : Prop} (h : p) : Hid p := h

/-- The bytes behind k marks. -/
def marked (zs : List Int) (k : Nat) : List Int := Ch.marks k ++ zs.drop k

theorem bts_append (a b : List Int) : bts (a ++ b) = bts a ++ bts b := by simp [bts]
theorem bts_set (zs : List Int) (k : Nat) (v : Int) : (bts zs).set k (.int .u8 v) = bts (zs.set k v) := by simp [bts, List.map_set]
theorem marked_set (zs : List Int) (k : Nat) (h : k < zs.length) : (bts (marked zs k)).set k (.int .u8 ((1 + (k : Int)) % 256)) = bts (marked zs (k + 1)) := by
  rw [bts_set]
  unfold marked
  rw [Ch.set_mid _ _ _ _ (Ch.marks_len k) h, Ch.marks_snoc]

theorem gr_trans {a b c : World} {g : Nat} (h : a.grownBy b (some g)) (k : b.grownBy c (some g)) : a.grownBy c (some g) :=
  ⟨k.os.trans h.os, k.tape.trans h.tape, k.output.trans h.output, Nat.le_trans h.size k.size, fun j hj hne => (k.block j (Nat.lt_of_lt_of_le hj h.size) hne).trans (h.block j hj hne)⟩

set_option maxHeartbeats 400000 in
theorem markByteS_any (B g n cp : Nat) (zs : List Int) (w : World) (hown : w.ownsRow B 5 1 (.slice (some ⟨g, 0, none⟩) n cp) n (bts zs)) (hn : n ≤ 1048579) :
    Calls Try.prog 34 #[.slice (some ⟨g, 0, none⟩) n cp, .int .i64 1] w fun e w' => e = .returned (.int .i64 (1 + n)) ∧ w'.ownsRow B 5 1 (.slice (some ⟨g, 0, none⟩) n cp) n (bts (Ch.marks n)) ∧ w.grownBy w' (some g) := by
  have HL : Hid (n = zs.length) := by
    have := hown.1
    simp [bts] at this
    exact this.symm
  go_enter Try.func34, Try.ntmps34
  go_wp2
  go_loopw [1, 5] (fun q i wr => ∃ k : Nat, k ≤ n ∧ i = .int .i64 k ∧ q = .int .i64 (1 + (k : Int)) ∧ wr.ownsRow B 5 1 (.slice (some ⟨g, 0, none⟩) n cp) n (bts (marked zs k)) ∧ w.grownBy wr (some g)) (fun _ i _ => n - (intOf i).toNat)
  case atStart => exact ⟨0, Nat.zero_le _, rfl, rfl, by simpa [marked, Ch.marks] using hown, ⟨rfl, rfl, rfl, Nat.le_refl _, fun _ _ _ => rfl⟩⟩
  case round =>
    obtain ⟨k, hk, rfl, rfl, own, gr⟩ := hrel
    by_cases hlt : k < n
    · have hf := own.frozenAt k
      obtain ⟨u0, hc⟩ := owns_some own (j := k) (by omega)
      have hS := own.stored k (.int .u8 ((1 + (k : Int)) % 256))
      rw [marked_set zs k (by have := HL.out; omega)] at hS
      go_wp2
      go_roundw
      case rel => exact ⟨k + 1, by omega, by go_num, by go_num, hS.1, gr_trans gr hS.2⟩
      case measure => simp [intOf]; omega
    · obtain rfl : k = n := by omega
      go_wp2
      go_ret
      refine ⟨rfl, ?_, gr⟩
      have := HL.out
      simpa [marked, this] using own

theorem markByteS_nil (w : World) : Calls Try.prog 34 #[.slice none 0 0, .int .i64 1] w fun e w' => e = .returned (.int .i64 1) ∧ w' = w := by
  go_enter Try.func34, Try.ntmps34
  go_wp2
  go_loop [1, 5] (fun q i => i = .int .i64 0 ∧ q = .int .i64 1) (fun _ _ => 0)
  case atStart => exact ⟨rfl, rfl⟩
  case round =>
    obtain ⟨rfl, rfl⟩ := hrel
    go_wp2
    go_ret
    exact ⟨rfl, rfl⟩

theorem heldByteS_any (a : Option Addr) (n cp : Nat) (w : World) (h : CellsAt w a n (bts (Ch.marks n))) (hn : n ≤ 1048579) :
    Calls Try.prog 54 #[.slice a n cp, .int .i64 1] w fun e w' => e = .returned (.int .i64 (1 + n)) ∧ w' = w := by
  go_enter Try.func54, Try.ntmps54
  go_wp2
  go_loop [1, 5] (fun q i => ∃ k : Nat, k ≤ n ∧ i = .int .i64 k ∧ q = .int .i64 (1 + (k : Int))) (fun _ i => n - (intOf i).toNat)
  case atStart => exact ⟨0, Nat.zero_le _, rfl, rfl⟩
  case round =>
    obtain ⟨k, hk, rfl, rfl⟩ := hrel
    by_cases hlt : k < n
    · obtain ⟨b, off, rfl, hc⟩ := h.at hlt
      rw [Ch.marks_at n k hlt] at hc
      go_wp2
      go_round
      case rel => exact ⟨k + 1, by omega, by go_num, by go_num⟩
      case measure => simp [intOf]; omega
    · obtain rfl : k = n := by omega
      go_wp2
      go_ret
      exact ⟨rfl, rfl⟩

/-- The marks that a law writes into rows. -/
def rmark (k : Nat) : Ch.Row := ⟨1 + 3 * (k : Int), 1 + 3 * (k : Int) + 1, (1 + 3 * (k : Int) + 1 + 1) % 3 == 0⟩
def rmarks (n : Nat) : List Ch.Row := (List.range n).map rmark
theorem rmarks_len (n : Nat) : (rmarks n).length = n := by simp [rmarks]
theorem rmarks_snoc (n : Nat) : rmarks (n + 1) = rmarks n ++ [rmark n] := by simp [rmarks, List.range_succ]
theorem rmarks_at (n k : Nat) (h : k < n) : (rmarks n).getD k Ch.Row.zero = rmark k := by simp [rmarks, List.getD, h]
/-- The rows behind k marks. -/
def rmarked (rs : List Ch.Row) (k : Nat) : List Ch.Row := rmarks k ++ rs.drop k
theorem rmarked_set (rs : List Ch.Row) (k : Nat) (h : k < rs.length) :
    (((rcells (rmarked rs k)).set (k * 3) (.int .i64 (1 + 3 * (k : Int)))).set (k * 3 + 1) (.int .i64 (1 + 3 * (k : Int) + 1))).set (k * 3 + 2) (.bool ((1 + 3 * (k : Int) + 1 + 1) % 3 == 0)) = rcells (rmarked rs (k + 1)) := by
  have := rcells_set (rmarked rs k) k (rmark k) (by simp [rmarked, rmarks_len]; omega)
  rw [show rcells (rmarked rs (k + 1)) = rcells ((rmarked rs k).set k (rmark k)) by unfold rmarked; rw [Ch.set_mid _ _ _ _ (rmarks_len k) h, rmarks_snoc], ← this]
  rfl

set_option maxHeartbeats 800000 in
theorem markRowS_any (B g n cp : Nat) (rs : List Ch.Row) (w : World) (hown : w.ownsRow B 36 3 (.slice (some ⟨g, 0, none⟩) n cp) n (rcells rs)) (hn : n ≤ 1048579) :
    Calls Try.prog 28 #[.slice (some ⟨g, 0, none⟩) n cp, .int .i64 1] w fun e w' => e = .returned (.int .i64 (1 + 3 * n)) ∧ w'.ownsRow B 36 3 (.slice (some ⟨g, 0, none⟩) n cp) n (rcells (rmarks n)) ∧ w.grownBy w' (some g) := by
  have HL := (owns_cells hown).rlen
  go_enter Try.func28, Try.ntmps28
  go_wp2
  go_loopw [1, 5] (fun q i wr => ∃ k : Nat, k ≤ n ∧ i = .int .i64 k ∧ q = .int .i64 (1 + 3 * (k : Int)) ∧ wr.ownsRow B 36 3 (.slice (some ⟨g, 0, none⟩) n cp) n (rcells (rmarked rs k)) ∧ w.grownBy wr (some g)) (fun _ i _ => n - (intOf i).toNat)
  case atStart => exact ⟨0, Nat.zero_le _, rfl, rfl, hown, ⟨rfl, rfl, rfl, Nat.le_refl _, fun _ _ _ => rfl⟩⟩
  case round =>
    obtain ⟨k, hk, rfl, rfl, own, gr⟩ := hrel
    by_cases hlt : k < n
    · have hf0 := own.frozenAt (k * 3)
      have hf1 := own.frozenAt (k * 3 + 1)
      have hf2 := own.frozenAt (k * 3 + 2)
      obtain ⟨u0, hd0⟩ := owns_some own (j := k * 3) (by omega)
      obtain ⟨u1, hd1⟩ := owns_some own (j := k * 3 + 1) (by omega)
      obtain ⟨u2, hd2⟩ := owns_some own (j := k * 3 + 2) (by omega)
      have HS := hid (rmarked_set rs k (by have := HL.out; omega))
      go_wp2
      go_roundw
      case rel =>
        refine ⟨k + 1, by omega, by go_num, by go_num, ?_, ?_⟩
        · rw [← HS.out]; exact owns_stored3 own _ _ _ _
        · exact gr_trans gr (gr_trans (gr_trans (own.stored _ _).2 ((own.stored _ _).1.stored _ _).2) (((own.stored _ _).1.stored _ _).1.stored _ _).2)
      case measure => simp [intOf]; omega
    · obtain rfl : k = n := by omega
      go_wp2
      go_ret
      refine ⟨rfl, ?_, gr⟩
      have := HL.out
      simpa [rmarked, this] using own
end Go.Proofs.Ythkbaabfhbjbgaa
