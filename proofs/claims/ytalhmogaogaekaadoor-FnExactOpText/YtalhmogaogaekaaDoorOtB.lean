/- l16Digits, l16Line, l16Fields of the model, at every number that an operation has. -/
import Derived.Test.YtalhmogaogaekaaDoorOtA
namespace Go.Proofs.YtalhmogaogaekaaDoor
open Go.RowKit

theorem digits_fuel : ∀ (k n : Nat) (w : World), n < 10 ^ (k + 1) → n ≤ 9999 →
    Calls Tryd.prog 33 #[.int .i64 n] w fun e w' => e = .returned (.string (Ch.dec n)) ∧ Below w.heap.size w w'
  | 0, n, w, h, _ => digits_small n w (by omega)
  | k + 1, n, w, h, h9 => by
    by_cases hn : n < 10
    · exact digits_small n w hn
    · rw [Ch.dec_big hn]
      exact digits_step n (n / 10) (n % 10) (Ch.dec (n / 10)) w (by omega) h9 rfl rfl (Ch.dec_size 3 _ (by omega)) (fun W => digits_fuel k (n / 10) W (by rw [Nat.pow_succ] at h; omega) (by omega))
theorem digits_any (n : Nat) (w : World) (h : n ≤ 9999) :
    Calls Tryd.prog 33 #[.int .i64 n] w fun e w' => e = .returned (.string (Ch.dec n)) ∧ Below w.heap.size w w' :=
  digits_fuel 3 n w (by omega) h

/-- A line: the words behind one another, a blank ahead of each number. -/
def Ch.line (word : ByteArray) (ns : List Nat) : ByteArray := ns.foldl (fun s n => s ++ ⟨#[32]⟩ ++ Ch.dec n) word
theorem Ch.line_snoc (word : ByteArray) (ns : List Nat) (k : Nat) (h : k < ns.length) : Ch.line word (ns.take (k + 1)) = Ch.line word (ns.take k) ++ ⟨#[32]⟩ ++ Ch.dec (ns.getD k 0) := by
  unfold Ch.line
  rw [List.take_succ_eq_append_getElem h, List.foldl_append]
  simp [List.getD, h]
def ncells (ns : List Nat) : List Value := icells (ns.map fun (n : Nat) => (n : Int))
theorem CellsAt.nat {w : World} {a : Option Addr} {n : Nat} {ns : List Nat} (h : CellsAt w a (n * 1) (ncells ns)) {k : Nat} (hk : k < n) :
    ∃ b off, a = some ⟨b, off, none⟩ ∧ w.cell? ⟨b, off + k, none⟩ = some (.int .i64 ((ns.getD k 0 : Nat) : Int)) := by
  obtain ⟨b, off, ha, hc⟩ := h.int hk
  refine ⟨b, off, ha, hc.trans ?_⟩
  have hl : k < ns.length := by have := h.ilen.out; simp at this; omega
  simp [List.getD, hl]

set_option maxHeartbeats 1000000 in
theorem line_any (word : ByteArray) (a : Option Addr) (n cap : Nat) (ns : List Nat) (w : World) (h : CellsAt w a (n * 1) (ncells ns)) (hn : n ≤ 2) (h9 : ∀ i, ns.getD i 0 ≤ 9999) (hw : word.size ≤ 20) :
    Calls Tryd.prog 15 #[.string word, .slice a n cap] w fun e w' => e = .returned (.string (Ch.line word ns)) ∧ Below w.heap.size w w' := by
  have HL : Hid (n = ns.length) := by have := h.ilen.out; simp at this; exact this
  go_enter Tryd.func15, Tryd.ntmps15
  go_wp2
  go_loopw [0, 5] (fun s i wr => ∃ (k : Nat) (x : ByteArray), k ≤ n ∧ i = .int .i64 k ∧ s = .string x ∧ Hid (x = Ch.line word (ns.take k)) ∧ x.size ≤ 20 + 5 * k ∧ Below w.heap.size w wr) (fun _ i _ => n - (intOf i).toNat)
  case atStart => exact ⟨0, word, Nat.zero_le _, rfl, rfl, rfl, by omega, Below.refl _ _⟩
  case round =>
    obtain ⟨k, x, hk, rfl, rfl, HX, hxs, hB⟩ := hrel
    by_cases hlt : k < n
    · have hkl : k < ns.length := by have := HL.out; omega
      obtain ⟨b, off, rfl, hc0⟩ := (h.below hB).nat hlt
      have HS := hid (Ch.line_snoc word ns k hkl)
      have hz9 := h9 k
      have hbl := lt_of_cell hc0
      generalize ns.getD k 0 = z at *
      have DG := fun W => digits_any z W hz9
      have hds := Ch.dec_size 3 z (by omega)
      generalize Ch.dec z = D at *
      have s1 : ¬ 9223372036854775807 < x.size + 1 := by omega
      have s2 : (x ++ ⟨#[32]⟩).size = x.size + 1 := by rw [ByteArray.size_append]; rfl
      have s3 : ¬ 9223372036854775807 < (x ++ ⟨#[32]⟩).size + D.size := by omega
      have s4 : (x ++ ⟨#[32]⟩ ++ D).size ≤ 20 + 5 * (k + 1) := by rw [ByteArray.size_append, s2]; omega
      replace s2 := hid s2
      replace s4 := hid s4
      go_wp2_with (go_at_call 33; refine (DG _).mono ?_; rintro e w1 ⟨rfl, b1⟩)
      go_roundw
      case rel => exact ⟨k + 1, _, by omega, by go_num, rfl, by show _ = _; rw [HS.out, ← HX.out], s4.out, hB.trans (b1.mono hB.size)⟩
      case measure => simp [intOf]; omega
    · obtain rfl : k = n := by omega
      have HWF : Hid (ns.take k = ns) := by have := HL.out; show _ = _; rw [this]; exact List.take_length
      go_wp2
      go_ret
      refine ⟨?_, hB⟩
      have := HX.out
      rw [HWF.out] at this
      rw [← this]
      rfl
end Go.Proofs.YtalhmogaogaekaaDoor
