/- Walks of the functions on lists of rows: sizes, copies, comparisons. -/
import Derived.Test.YthkbaabfhbjbgaaRowW
import Derived.Deep.QuietTactic
import Derived.BigQuiet
import Derived.Deep.RegionWith
namespace Go.Proofs.Ythkbaabfhbjbgaa
open Go.RowKit

theorem Try.info36 : (Try.prog.info? 36).map (fun i => (i.zero, i.size, i.bytes)) = some (some (.agg #[.int .i64 0, .int .i64 0, .bool false]), 3, 24) := by kernel_rfl

theorem sz_ok (a : Option Addr) (n cap : Nat) (w : World) (hn : n ≤ 1048576) :
    Calls Try.prog 23 #[.slice a n cap, .int .i64 1048576] w fun e w' => e = .returned (.int .i64 (1048576 - n)) ∧ w' = w := by
  go_enter Try.func23, Try.ntmps23
  go_wp2
  go_ret
  exact ⟨rfl, rfl⟩

theorem sz_big (a : Option Addr) (n cap : Nat) (w : World) (hn : 1048576 < n) (hm : n ≤ 9223372036854775807) :
    Calls Try.prog 23 #[.slice a n cap, .int .i64 1048576] w fun e w' => e = .returned (.int .i64 (-1)) ∧ w' = w := by
  go_enter Try.func23, Try.ntmps23
  go_wp2
  go_ret
  exact ⟨rfl, rfl⟩

/-- What the copy holds behind k rounds. -/
def rcopied (rs : List Ch.Row) (n k : Nat) : List Value := rcells (rs.take k ++ List.replicate (n - k) Ch.Row.zero)

theorem rcopied_end {rs : List Ch.Row} {n : Nat} (h : n = rs.length) : rcopied rs n n = rcells rs := by
  subst h; simp [rcopied]
theorem rcopied_set {rs : List Ch.Row} {n k : Nat} (h : n = rs.length) (hk : k < n) : (((rcopied rs n k).set (k * 3) (.int .i64 (rs.getD k Ch.Row.zero).k)).set (k * 3 + 1) (.int .i64 (rs.getD k Ch.Row.zero).v)).set (k * 3 + 2) (.bool (rs.getD k Ch.Row.zero).g) = rcopied rs n (k + 1) := by
  unfold rcopied
  rw [rcells_set _ _ _ (by simp; omega), fill_set rs _ _ n k h hk]

set_option maxHeartbeats 400000 in
theorem toRowS_any (a : Option Addr) (n cap : Nat) (rs : List Ch.Row) (w : World) (h : CellsAt w a (n * 3) (rcells rs)) (hn : n ≤ 1048576) :
    Calls Try.prog 24 #[.slice a n cap] w fun e w' => e = .returned (.slice (some ⟨w.heap.size, 0, none⟩) n n) ∧
      w'.ownsRow w.heap.size 36 3 (.slice (some ⟨w.heap.size, 0, none⟩) n n) n (rcells rs) ∧ Below w.heap.size w w' := by
  have HL := h.rlen
  obtain ⟨i0, hi, hz0, hz1, hz2⟩ := info_parts Try.info36
  go_enter Try.func24, Try.ntmps24
  go_wp2_with (at_make; refine wpList_make_full _ rfl _ _ 25 rfl w.heap.size 36 i0 (.agg #[.int .i64 0, .int .i64 0, .bool false]) 3 Try.underlying25 hi hz0 hz1 .i64 .i64 _ _ n rfl rfl rfl rfl (by rw [hz2]; omega) (by unfold maxLen; omega) (Nat.le_refl _) ?_; intro w0 hown0 hgrow0)
  have hB0 : Below w.heap.size w w0 := (Below.refl _ _).grown hgrow0 (Nat.le_refl _) (by simp)
  go_loopw [4] (fun i wr => ∃ k : Nat, k ≤ n ∧ i = .int .i64 k ∧ wr.ownsRow w.heap.size 36 3 (.slice (some ⟨w.heap.size, 0, none⟩) n n) n (rcopied rs n k) ∧ Below w.heap.size w wr) (fun i _ => n - (intOf i).toNat)
  case atStart => exact ⟨0, Nat.zero_le _, rfl, by rw [made_rows] at hown0; simpa [rcopied] using hown0, hB0⟩
  case round =>
    obtain ⟨k, hk, rfl, hown, hB⟩ := hrel
    by_cases hlt : k < n
    · obtain ⟨b, off, rfl, hc0, hc1, hc2⟩ := (h.below hB).row hlt
      have HC : Hid ((((rcopied rs n k).set (k * 3) (.int .i64 (rs.getD k Ch.Row.zero).k)).set (k * 3 + 1) (.int .i64 (rs.getD k Ch.Row.zero).v)).set (k * 3 + 2) (.bool (rs.getD k Ch.Row.zero).g) = rcopied rs n (k + 1)) := rcopied_set HL.out hlt
      generalize rs.getD k Ch.Row.zero = r at *
      obtain ⟨rk, rv, rg⟩ := r
      simp only at hc0 hc1 hc2
      go_wp2_with fail
      refine (toRow_any _ _ _ _).mono ?_
      rintro e w1 ⟨rfl, b1⟩
      have hown1 := owns_below hown b1
      have hf0 := hown1.frozenAt (k * 3)
      have hf1 := hown1.frozenAt (k * 3 + 1)
      have hf2 := hown1.frozenAt (k * 3 + 2)
      obtain ⟨u0, hd0⟩ := owns_some hown1 (j := k * 3) (by omega)
      obtain ⟨u1, hd1⟩ := owns_some hown1 (j := k * 3 + 1) (by omega)
      obtain ⟨u2, hd2⟩ := owns_some hown1 (j := k * 3 + 2) (by omega)
      go_wp2
      go_roundw
      case rel =>
        refine ⟨k + 1, by omega, by go_num, ?_, ?_⟩
        · rw [← HC.out]; exact owns_stored3 hown1 _ _ _ _
        · exact (((hB.trans (b1.mono hB.size)).setCell (Nat.le_refl _) _).setCell (Nat.le_refl _) _).setCell (Nat.le_refl _) _
      case measure => simp [intOf]; omega
    · obtain rfl : k = n := by omega
      go_wp2
      go_ret
      exact ⟨rfl, by rw [rcopied_end HL.out] at hown; exact hown, hB⟩

theorem eqRow_same (k v : Int) (g : Bool) (w : World) :
    Calls Try.prog 53 #[.agg #[.int .i64 k, .int .i64 v, .bool g], .agg #[.int .i64 k, .int .i64 v, .bool g]] w fun e w' => e = .returned (.bool true) ∧ Below w.heap.size w w' := by
  have h0 : (k != k) = false := by simp
  have h1 : (v != v) = false := by simp
  have h2 : (g != g) = false := by simp
  go_enter Try.func53, Try.ntmps53
  go_wp2
  go_ret
  exact ⟨rfl, ((Below.refl _ _).alloc (Nat.le_refl _) _).alloc (by simp) _⟩

set_option maxHeartbeats 400000 in
theorem eqRowS_same (a a' : Option Addr) (n cap cap' : Nat) (rs : List Ch.Row) (w : World) (h : CellsAt w a (n * 3) (rcells rs)) (h' : CellsAt w a' (n * 3) (rcells rs)) (hn : n ≤ 1099511627776) :
    Calls Try.prog 25 #[.slice a n cap, .slice a' n cap'] w fun e w' => e = .returned (.bool true) ∧ Below w.heap.size w w' := by
  have HL := h.rlen
  have hnn : ((n : Int) != n) = false := by simp
  go_enter Try.func25, Try.ntmps25
  go_wp2
  go_loopw [5] (fun i wr => ∃ k : Nat, k ≤ n ∧ i = .int .i64 k ∧ Below w.heap.size w wr) (fun i _ => n - (intOf i).toNat)
  case atStart => exact ⟨0, Nat.zero_le _, rfl, Below.refl _ _⟩
  case round =>
    obtain ⟨k, hk, rfl, hB⟩ := hrel
    by_cases hlt : k < n
    · obtain ⟨b, off, rfl, hc0, hc1, hc2⟩ := (h.below hB).row hlt
      obtain ⟨b', off', rfl, hd0, hd1, hd2⟩ := (h'.below hB).row hlt
      generalize rs.getD k Ch.Row.zero = r at *
      obtain ⟨rk, rv, rg⟩ := r
      simp only at hc0 hc1 hc2 hd0 hd1 hd2
      go_wp2
      go_region_with (go_at_call 53; refine (eqRow_same _ _ _ _).mono ?_; rintro e w1 ⟨rfl, b1⟩)
      all_goals
        have b1' : Below wr.heap.size wr _ := ⟨b1.os, b1.tape, b1.output, b1.size, b1.block⟩
        clear b1
        go_wp2
        go_roundw
        case rel => exact ⟨k + 1, by omega, by go_num, hB.trans (b1'.mono hB.size)⟩
        case measure => simp [intOf]; omega
    · obtain rfl : k = n := by omega
      go_wp2
      go_ret
      exact ⟨rfl, hB⟩
end Go.Proofs.Ythkbaabfhbjbgaa
