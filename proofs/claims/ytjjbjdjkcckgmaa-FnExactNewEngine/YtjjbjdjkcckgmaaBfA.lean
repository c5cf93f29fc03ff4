
/- What was before a change: a key, whether it had a value, and which: in memory; the laws' functions on it. -/
import Derived.Test.YtjjbjdjkcckgmaaRowa
namespace Go.Proofs.Ytjjbjdjkcckgmaa
open Go.RowKit

structure Ch.Bf where
  k : Int
  h : Bool
  v : Int
def Ch.Bf.zero : Ch.Bf := ⟨0, false, 0⟩

/-- Rows as values: three cells each. -/
def bfcells (rs : List Ch.Bf) : List Value := rs.flatMap fun r => [.int .i64 r.k, .bool r.h, .int .i64 r.v]

theorem bfcells_len (rs : List Ch.Bf) : (bfcells rs).length = rs.length * 3 := by
  induction rs with
  | nil => rfl
  | cons r rs ih => simp only [bfcells, List.flatMap_cons, List.length_append, List.length_cons, List.length_nil] at *; omega

theorem bfcells_at (rs : List Ch.Bf) (k : Nat) (h : k < rs.length) : (bfcells rs)[k * 3]? = some (.int .i64 (rs.getD k Ch.Bf.zero).k) ∧ (bfcells rs)[k * 3 + 1]? = some (.bool (rs.getD k Ch.Bf.zero).h) ∧ (bfcells rs)[k * 3 + 2]? = some (.int .i64 (rs.getD k Ch.Bf.zero).v) := by
  induction rs generalizing k with
  | nil => simp at h
  | cons r rs ih =>
    cases k with
    | zero => simp [bfcells]
    | succ k =>
      have := ih k (by simpa using h)
      simp only [bfcells, List.flatMap_cons] at *
      rw [show (k + 1) * 3 = k * 3 + 1 + 1 + 1 by omega]
      simpa using this

theorem CellsAt.bflen {w : World} {a : Option Addr} {n : Nat} {rs : List Ch.Bf} (h : CellsAt w a (n * 3) (bfcells rs)) : Hid (n = rs.length) := by
  have := h.1
  rw [bfcells_len] at this
  exact (by omega : n = rs.length)

theorem CellsAt.bef {w : World} {a : Option Addr} {n : Nat} {rs : List Ch.Bf} (h : CellsAt w a (n * 3) (bfcells rs)) {k : Nat} (hk : k < n) :
    ∃ b off, a = some ⟨b, off, none⟩ ∧ w.cell? ⟨b, off + k * 3, none⟩ = some (.int .i64 (rs.getD k Ch.Bf.zero).k) ∧ w.cell? ⟨b, off + k * 3 + 1, none⟩ = some (.bool (rs.getD k Ch.Bf.zero).h) ∧ w.cell? ⟨b, off + k * 3 + 2, none⟩ = some (.int .i64 (rs.getD k Ch.Bf.zero).v) := by
  obtain ⟨b, off, ha, hc⟩ := h.2 (by omega)
  have hl := h.bflen.out
  obtain ⟨h0, h1, h2⟩ := bfcells_at rs k (by omega)
  exact ⟨b, off, ha, (hc _ (by omega)).trans h0, by rw [Nat.add_assoc]; exact (hc _ (by omega)).trans h1, by rw [Nat.add_assoc]; exact (hc _ (by omega)).trans h2⟩

theorem bfcells_set (rs : List Ch.Bf) (k : Nat) (r : Ch.Bf) (h : k < rs.length) :
    (((bfcells rs).set (k * 3) (.int .i64 r.k)).set (k * 3 + 1) (.bool r.h)).set (k * 3 + 2) (.int .i64 r.v) = bfcells (rs.set k r) := by
  induction rs generalizing k with
  | nil => simp at h
  | cons q rs ih =>
    cases k with
    | zero => simp [bfcells]
    | succ k =>
      have := ih k (by simpa using h)
      simp only [bfcells, List.flatMap_cons, List.set_cons_succ] at *
      rw [← this, show (k + 1) * 3 = k * 3 + 1 + 1 + 1 by omega]
      simp

theorem made_befs (n : Nat) : (madeCells (Value.agg #[.int .i64 0, .bool false, .int .i64 0]).cells (n * 3)).toList = bfcells (List.replicate n Ch.Bf.zero) := by
  apply List.ext_getElem?
  intro j
  by_cases hj : j < n * 3
  · have hl : j / 3 < n := by omega
    obtain ⟨h0, h1, h2⟩ := bfcells_at (List.replicate n Ch.Bf.zero) (j / 3) (by simpa using hl)
    simp only [List.getD, List.getElem?_replicate, hl, if_true, Option.getD_some, Ch.Bf.zero] at h0 h1 h2
    have hm : j % 3 < 3 := Nat.mod_lt _ (by decide)
    have he : j = j / 3 * 3 + j % 3 := by omega
    have e : (madeCells (Value.agg #[.int .i64 0, .bool false, .int .i64 0]).cells (n * 3)).toList[j]? = #[Value.int .i64 0, .bool false, .int .i64 0][j % 3]? := by
      simp [madeCells, hj, Value.cells, hm]
    rw [e]
    generalize j % 3 = m at *
    generalize j / 3 = q at *
    subst he
    match m, hm with
    | 0, _ => exact h0.symm
    | 1, _ => exact h1.symm
    | 2, _ => exact h2.symm
  · have := bfcells_len (List.replicate n Ch.Bf.zero)
    rw [List.getElem?_eq_none (by simp [madeCells]; omega), List.getElem?_eq_none (by rw [this]; simp; omega)]

theorem Try.info126 : (Try.prog.info? 126).map (fun i => (i.zero, i.size, i.bytes)) = some (some (.agg #[.int .i64 0, .bool false, .int .i64 0]), 3, 24) := by kernel_rfl

/-- What the copy holds behind k rounds. -/
def bfcopied (rs : List Ch.Bf) (n k : Nat) : List Value := bfcells (rs.take k ++ List.replicate (n - k) Ch.Bf.zero)

theorem bfcopied_end {rs : List Ch.Bf} {n : Nat} (h : n = rs.length) : bfcopied rs n n = bfcells rs := by
  subst h; simp [bfcopied]

theorem bfcopied_set {rs : List Ch.Bf} {n k : Nat} (h : n = rs.length) (hk : k < n) : (((bfcopied rs n k).set (k * 3) (.int .i64 (rs.getD k Ch.Bf.zero).k)).set (k * 3 + 1) (.bool (rs.getD k Ch.Bf.zero).h)).set (k * 3 + 2) (.int .i64 (rs.getD k Ch.Bf.zero).v) = bfcopied rs n (k + 1) := by
  unfold bfcopied
  rw [bfcells_set _ _ _ (by simp; omega), fill_set rs _ _ n k h hk]

theorem eqBef_same (k : Int) (g : Bool) (v : Int) (w : World) :
    Calls Try.prog 95 #[.agg #[.int .i64 k, .bool g, .int .i64 v], .agg #[.int .i64 k, .bool g, .int .i64 v]] w fun e w' => e = .returned (.bool true) ∧ Below w.heap.size w w' := by
  have h0 : (k != k) = false := by simp
  have h1 : (v != v) = false := by simp
  have h2 : (g != g) = false := by simp
  go_enter Try.func95, Try.ntmps95
  go_wp2
  go_ret
  exact ⟨rfl, ((Below.refl _ _).alloc (Nat.le_refl _) _).alloc (by simp) _⟩

set_option maxHeartbeats 400000 in
theorem eqBefS_same (a a' : Option Addr) (n cap cap' : Nat) (rs : List Ch.Bf) (w : World) (h : CellsAt w a (n * 3) (bfcells rs)) (h' : CellsAt w a' (n * 3) (bfcells rs)) (hn : n ≤ 1099511627776) :
    Calls Try.prog 89 #[.slice a n cap, .slice a' n cap'] w fun e w' => e = .returned (.bool true) ∧ Below w.heap.size w w' := by
  have HL := h.bflen
  have hnn : ((n : Int) != n) = false := by simp
  go_enter Try.func89, Try.ntmps89
  go_wp2
  go_loopw [5] (fun i wr => ∃ k : Nat, k ≤ n ∧ i = .int .i64 k ∧ Below w.heap.size w wr) (fun i _ => n - (intOf i).toNat)
  case atStart => exact ⟨0, Nat.zero_le _, rfl, Below.refl _ _⟩
  case round =>
    obtain ⟨k, hk, rfl, hB⟩ := hrel
    by_cases hlt : k < n
    · obtain ⟨b, off, rfl, hc0, hc1, hc2⟩ := (h.below hB).bef hlt
      obtain ⟨b', off', rfl, hd0, hd1, hd2⟩ := (h'.below hB).bef hlt
      generalize rs.getD k Ch.Bf.zero = r at *
      obtain ⟨rk, rg, rv⟩ := r
      simp only at hc0 hc1 hc2 hd0 hd1 hd2
      go_wp2
      go_region_with (go_at_call 95; refine (eqBef_same _ _ _ _).mono ?_; rintro e w1 ⟨rfl, b1⟩)
      all_goals
        have b1' : Below wr.heap.size wr _ := ⟨b1.os, b1.tape, b1.output, b1.size, b1.block⟩
        clear b1
        go_wp2
        go_roundw
        case rel => exact ⟨k + 1, by omega, by go_num, hB.trans (b1'.mono hB.size)⟩
        case measure => simp [intOf]; omega
    · obtain rfl : k = n := by omega
      go_wp2
      go_ret
      exact ⟨rfl, hB⟩

/-- The marks that a law writes into rows, the first one s. -/
def bfmark (s : Int) (k : Nat) : Ch.Bf := ⟨s + 3 * (k : Int), (s + 3 * (k : Int) + 1) % 3 == 0, s + 3 * (k : Int) + 1 + 1⟩

def bfmarks (s : Int) (n : Nat) : List Ch.Bf := (List.range n).map (bfmark s)

theorem bfmarks_len (s : Int) (n : Nat) : (bfmarks s n).length = n := by simp [bfmarks]

theorem bfmarks_snoc (s : Int) (n : Nat) : bfmarks s (n + 1) = bfmarks s n ++ [bfmark s n] := by simp [bfmarks, List.range_succ]

theorem bfmarks_at (s : Int) (n k : Nat) (h : k < n) : (bfmarks s n).getD k Ch.Bf.zero = bfmark s k := by simp [bfmarks, List.getD, h]

/-- The rows behind k marks. -/
def bfmarked (s : Int) (rs : List Ch.Bf) (k : Nat) : List Ch.Bf := bfmarks s k ++ rs.drop k

theorem bfmarked_set (s : Int) (rs : List Ch.Bf) (k : Nat) (h : k < rs.length) :
    (((bfcells (bfmarked s rs k)).set (k * 3) (.int .i64 (s + 3 * (k : Int)))).set (k * 3 + 1) (.bool ((s + 3 * (k : Int) + 1) % 3 == 0))).set (k * 3 + 2) (.int .i64 (s + 3 * (k : Int) + 1 + 1)) = bfcells (bfmarked s rs (k + 1)) := by
  have := bfcells_set (bfmarked s rs k) k (bfmark s k) (by simp [bfmarked, bfmarks_len]; omega)
  rw [show bfcells (bfmarked s rs (k + 1)) = bfcells ((bfmarked s rs k).set k (bfmark s k)) by unfold bfmarked; rw [Ch.set_mid _ _ _ _ (bfmarks_len s k) h, bfmarks_snoc], ← this]
  rfl

set_option maxHeartbeats 800000 in
theorem markBefS_some (s : Int) (B g n cp : Nat) (rs : List Ch.Bf) (w : World) (hs0 : 0 < s) (hs1 : s ≤ 1099511627776) (hown : w.ownsRow B 126 3 (.slice (some ⟨g, 0, none⟩) n cp) n (bfcells rs)) (hn : n ≤ 1048579) :
    Calls Try.prog 77 #[.slice (some ⟨g, 0, none⟩) n cp, .int .i64 s] w fun e w' => e = .returned (.int .i64 (s + 3 * n)) ∧ w'.ownsRow B 126 3 (.slice (some ⟨g, 0, none⟩) n cp) n (bfcells (bfmarks s n)) ∧ w.grownBy w' (some g) := by
  have HL := (owns_cells hown).bflen
  go_enter Try.func77, Try.ntmps77
  go_wp2
  go_loopw [1, 5] (fun q i wr => ∃ k : Nat, k ≤ n ∧ i = .int .i64 k ∧ q = .int .i64 (s + 3 * (k : Int)) ∧ wr.ownsRow B 126 3 (.slice (some ⟨g, 0, none⟩) n cp) n (bfcells (bfmarked s rs k)) ∧ w.grownBy wr (some g)) (fun _ i _ => n - (intOf i).toNat)
  case atStart => exact ⟨0, Nat.zero_le _, rfl, by simp, by simpa [bfmarked, bfmarks] using hown, ⟨rfl, rfl, rfl, Nat.le_refl _, fun _ _ _ => rfl⟩⟩
  case round =>
    obtain ⟨k, hk, rfl, rfl, own, gr⟩ := hrel
    by_cases hlt : k < n
    · have hf0 := own.frozenAt (k * 3)
      have hf1 := own.frozenAt (k * 3 + 1)
      have hf2 := own.frozenAt (k * 3 + 2)
      obtain ⟨u0, hd0⟩ := owns_some own (j := k * 3) (by omega)
      obtain ⟨u1, hd1⟩ := owns_some own (j := k * 3 + 1) (by omega)
      obtain ⟨u2, hd2⟩ := owns_some own (j := k * 3 + 2) (by omega)
      have HS := hid (bfmarked_set s rs k (by have := HL.out; omega))
      go_wp2
      go_roundw
      case rel =>
        refine ⟨k + 1, by omega, by go_num, by go_num, ?_, ?_⟩
        · rw [← HS.out]; exact owns_stored3 own _ _ _ _
        · exact gr_trans gr (gr_trans (gr_trans (own.stored _ _).2 ((own.stored _ _).1.stored _ _).2) (((own.stored _ _).1.stored _ _).1.stored _ _).2)
      case measure => simp [intOf]; omega
    · obtain rfl : k = n := by omega
      go_wp2
      go_ret
      refine ⟨rfl, ?_, gr⟩
      have := HL.out
      simpa [bfmarked, this] using own

theorem markBefS_nil (s : Int) (w : World) : Calls Try.prog 77 #[.slice none 0 0, .int .i64 s] w fun e w' => e = .returned (.int .i64 s) ∧ w' = w := by
  go_enter Try.func77, Try.ntmps77
  go_wp2
  go_loop [1, 5] (fun q i => i = .int .i64 0 ∧ q = .int .i64 s) (fun _ _ => 0)
  case atStart => exact ⟨rfl, rfl⟩
  case round =>
    obtain ⟨rfl, rfl⟩ := hrel
    go_wp2
    go_ret
    exact ⟨rfl, rfl⟩

theorem markBefS_any (s : Int) (B n : Nat) (a : Option Addr) (cap : Nat) (rs : List Ch.Bf) (w : World) (hs0 : 0 < s) (hs1 : s ≤ 1099511627776) (hown : w.ownsRow B 126 3 (.slice a n cap) n (bfcells rs)) (hn : n ≤ 1048579) :
    Calls Try.prog 77 #[.slice a n cap, .int .i64 s] w fun e w' => e = .returned (.int .i64 (s + 3 * n)) ∧ w'.ownsRow B 126 3 (.slice a n cap) n (bfcells (bfmarks s n)) ∧ w.grownBy w' (Value.slice a n cap).ownBlock := by
  rcases hown.2 with ⟨hv, h0⟩ | ⟨g, cp, cur, hv, _⟩
  · simp only [Value.slice.injEq] at hv
    obtain ⟨rfl, rfl, rfl⟩ := hv
    refine (markBefS_nil s w).mono ?_
    rintro e w1 ⟨rfl, rfl⟩
    exact ⟨by simp, World.ownsRow_nil _ _ _ _, ⟨rfl, rfl, rfl, Nat.le_refl _, fun _ _ _ => rfl⟩⟩
  · simp only [Value.slice.injEq, true_and] at hv
    obtain ⟨rfl, rfl⟩ := hv
    exact markBefS_some s B g n cap rs w hs0 hs1 hown hn
end Go.Proofs.Ytjjbjdjkcckgmaa
