
/- Edges in memory (two numbers each, as holds): the laws' functions on them. -/
import Derived.Test.YtndihplibdhogaaSmall
import Derived.Test.YtndihplibdhogaaRecW
import Derived.Test.YtndihplibdhogaaHd
import Derived.Test.YtndihplibdhogaaLkN
namespace Go.Proofs.Ytndihplibdhogaa
open Go.RowKit

theorem Try.info33 : (Try.prog.info? 33).map (fun i => (i.zero, i.size, i.bytes)) = some (some (.agg #[.int .i64 0, .int .i64 0]), 2, 16) := by kernel_rfl

theorem szEdges_any (a : Option Addr) (n cap L : Nat) (w : World) (hL : L ≤ 1048576) (hm : n ≤ 9223372036854775807) :
    Calls Try.prog 15 #[.slice a n cap, .int .i64 L] w fun e w' => e = .returned (.int .i64 (if n ≤ L then (L : Int) - n else -1)) ∧ w' = w := by
  by_cases h : n ≤ L
  · rw [if_pos h]
    go_enter Try.func15, Try.ntmps15
    go_wp2
    go_ret
    exact ⟨rfl, rfl⟩
  · rw [if_neg h]
    have h' : L < n := by omega
    clear h
    go_enter Try.func15, Try.ntmps15
    go_wp2
    go_ret
    exact ⟨rfl, rfl⟩

theorem toEdge_any (t m : Int) (w : World) :
    Calls Try.prog 32 #[.agg #[.int .i64 t, .int .i64 m]] w fun e w' => e = .returned (.agg #[.int .i64 t, .int .i64 m]) ∧ Below w.heap.size w w' := by
  go_enter Try.func32, Try.ntmps32
  go_wp2
  exact bodyPost_ret (v := .agg #[.int .i64 t, .int .i64 m]) (by simp [results, Try.results32, go_sem]) rfl
    ⟨rfl, (((Below.refl _ _).alloc (Nat.le_refl _) _).alloc (by simp) _).alloc (by simp; omega) _⟩

set_option maxHeartbeats 400000 in
theorem toEdgeS_any (a : Option Addr) (n cap : Nat) (rs : List Ch.Hold) (w : World) (h : CellsAt w a (n * 2) (hcells rs)) (hn : n ≤ 1048576) :
    Calls Try.prog 16 #[.slice a n cap] w fun e w' => e = .returned (.slice (some ⟨w.heap.size, 0, none⟩) n n) ∧
      w'.ownsRow w.heap.size 33 2 (.slice (some ⟨w.heap.size, 0, none⟩) n n) n (hcells rs) ∧ Below w.heap.size w w' := by
  have HL := h.hlen
  obtain ⟨i0, hi, hz0, hz1, hz2⟩ := info_parts Try.info33
  go_enter Try.func16, Try.ntmps16
  go_wp2_with (at_make; refine wpList_make_full _ rfl _ _ 24 rfl w.heap.size 33 i0 (.agg #[.int .i64 0, .int .i64 0]) 2 Try.underlying24 hi hz0 hz1 .i64 .i64 _ _ n rfl rfl rfl rfl (by rw [hz2]; omega) (by unfold maxLen; omega) (Nat.le_refl _) ?_; intro w0 hown0 hgrow0)
  have hB0 : Below w.heap.size w w0 := (Below.refl _ _).grown hgrow0 (Nat.le_refl _) (by simp)
  go_loopw [4] (fun i wr => ∃ k : Nat, k ≤ n ∧ i = .int .i64 k ∧ wr.ownsRow w.heap.size 33 2 (.slice (some ⟨w.heap.size, 0, none⟩) n n) n (hcopied rs n k) ∧ Below w.heap.size w wr) (fun i _ => n - (intOf i).toNat)
  case atStart => exact ⟨0, Nat.zero_le _, rfl, by rw [made_holds] at hown0; simpa [hcopied] using hown0, hB0⟩
  case round =>
    obtain ⟨k, hk, rfl, hown, hB⟩ := hrel
    by_cases hlt : k < n
    · obtain ⟨b, off, rfl, hc0, hc1⟩ := (h.below hB).hold hlt
      have HC := hid (hcopied_set HL.out hlt)
      generalize rs.getD k Ch.Hold.zero = r at *
      obtain ⟨rt, rm⟩ := r
      simp only at hc0 hc1 HC
      go_wp2_with fail
      refine (toEdge_any _ _ _).mono ?_
      rintro e w1 ⟨rfl, b1⟩
      have hown1 := owns_below hown b1
      have hf0 := hown1.frozenAt (k * 2)
      have hf1 := hown1.frozenAt (k * 2 + 1)
      obtain ⟨u0, hd0⟩ := owns_some hown1 (j := k * 2) (by omega)
      obtain ⟨u1, hd1⟩ := owns_some hown1 (j := k * 2 + 1) (by omega)
      go_wp2
      go_roundw
      case rel =>
        refine ⟨k + 1, by omega, by go_num, ?_, ?_⟩
        · rw [← HC.out]; exact owns_stored2 hown1 _ _ _
        · exact ((hB.trans (b1.mono hB.size)).setCell (Nat.le_refl _) _).setCell (Nat.le_refl _) _
      case measure => simp [intOf]; omega
    · obtain rfl : k = n := by omega
      go_wp2
      go_ret
      exact ⟨rfl, by rw [hcopied_end HL.out] at hown; exact hown, hB⟩

theorem toEdgeS_at (H : Nat) (a : Option Addr) (n cap : Nat) (rs : List Ch.Hold) (w : World) (hH : w.heap.size = H) (h : CellsAt w a (n * 2) (hcells rs)) (hn : n ≤ 1048576) :
    Calls Try.prog 16 #[.slice a n cap] w fun e w' => e = .returned (.slice (some ⟨H, 0, none⟩) n n) ∧
      w'.ownsRow H 33 2 (.slice (some ⟨H, 0, none⟩) n n) n (hcells rs) ∧ Below w.heap.size w w' := by
  subst hH
  exact toEdgeS_any a n cap rs w h hn

theorem eqEdge_same (t m : Int) (w : World) :
    Calls Try.prog 34 #[.agg #[.int .i64 t, .int .i64 m], .agg #[.int .i64 t, .int .i64 m]] w fun e w' => e = .returned (.bool true) ∧ Below w.heap.size w w' := by
  have h0 : (t != t) = false := by simp
  have h1 : (m != m) = false := by simp
  go_enter Try.func34, Try.ntmps34
  go_wp2
  go_ret
  exact ⟨rfl, ((Below.refl _ _).alloc (Nat.le_refl _) _).alloc (by simp) _⟩

set_option maxHeartbeats 400000 in
theorem eqEdgeS_same (a a' : Option Addr) (n cap cap' : Nat) (rs : List Ch.Hold) (w : World) (h : CellsAt w a (n * 2) (hcells rs)) (h' : CellsAt w a' (n * 2) (hcells rs)) (hn : n ≤ 1048576) :
    Calls Try.prog 18 #[.slice a n cap, .slice a' n cap'] w fun e w' => e = .returned (.bool true) ∧ Below w.heap.size w w' := by
  have HL := h.hlen
  have hnn : ((n : Int) != n) = false := by simp
  go_enter Try.func18, Try.ntmps18
  go_wp2
  go_loopw [5] (fun i wr => ∃ k : Nat, k ≤ n ∧ i = .int .i64 k ∧ Below w.heap.size w wr) (fun i _ => n - (intOf i).toNat)
  case atStart => exact ⟨0, Nat.zero_le _, rfl, Below.refl _ _⟩
  case round =>
    obtain ⟨k, hk, rfl, hB⟩ := hrel
    by_cases hlt : k < n
    · obtain ⟨b, off, rfl, hc0, hc1⟩ := (h.below hB).hold hlt
      obtain ⟨b', off', rfl, hd0, hd1⟩ := (h'.below hB).hold hlt
      generalize rs.getD k Ch.Hold.zero = r at *
      obtain ⟨rt, rm⟩ := r
      simp only at hc0 hc1 hd0 hd1
      go_wp2
      go_region_with (go_at_call 34; refine (eqEdge_same _ _ _).mono ?_; rintro e w1 ⟨rfl, b1⟩)
      all_goals
        have b1' : Below wr.heap.size wr _ := ⟨b1.os, b1.tape, b1.output, b1.size, b1.block⟩
        clear b1
        go_wp2
        go_roundw
        case rel => exact ⟨k + 1, by omega, by go_num, hB.trans (b1'.mono hB.size)⟩
        case measure => simp [intOf]; omega
    · obtain rfl : k = n := by omega
      go_wp2
      go_ret
      exact ⟨rfl, hB⟩

set_option maxHeartbeats 800000 in
theorem markEdges_some (s : Int) (B g n cp : Nat) (rs : List Ch.Hold) (w : World) (hs0 : 0 < s) (hs1 : s ≤ 1099511627776) (hown : w.ownsRow B 33 2 (.slice (some ⟨g, 0, none⟩) n cp) n (hcells rs)) (hn : n ≤ 1048579) :
    Calls Try.prog 19 #[.slice (some ⟨g, 0, none⟩) n cp, .int .i64 s] w fun e w' => e = .returned (.int .i64 (s + 2 * n)) ∧ w'.ownsRow B 33 2 (.slice (some ⟨g, 0, none⟩) n cp) n (hcells (hmarks s n)) ∧ w.grownBy w' (some g) := by
  have HL := (owns_cells hown).hlen
  go_enter Try.func19, Try.ntmps19
  go_wp2
  go_loopw [1, 5] (fun q i wr => ∃ k : Nat, k ≤ n ∧ i = .int .i64 k ∧ q = .int .i64 (s + 2 * (k : Int)) ∧ wr.ownsRow B 33 2 (.slice (some ⟨g, 0, none⟩) n cp) n (hcells (hmarked s rs k)) ∧ w.grownBy wr (some g)) (fun _ i _ => n - (intOf i).toNat)
  case atStart => exact ⟨0, Nat.zero_le _, rfl, by simp, by simpa [hmarked, hmarks] using hown, ⟨rfl, rfl, rfl, Nat.le_refl _, fun _ _ _ => rfl⟩⟩
  case round =>
    obtain ⟨k, hk, rfl, rfl, own, gr⟩ := hrel
    by_cases hlt : k < n
    · have hf0 := own.frozenAt (k * 2)
      have hf1 := own.frozenAt (k * 2 + 1)
      obtain ⟨u0, hd0⟩ := owns_some own (j := k * 2) (by omega)
      obtain ⟨u1, hd1⟩ := owns_some own (j := k * 2 + 1) (by omega)
      have HS := hid (hmarked_set s rs k (by have := HL.out; omega))
      go_wp2
      go_roundw
      case rel =>
        refine ⟨k + 1, by omega, by go_num, by go_num, ?_, ?_⟩
        · rw [← HS.out]; exact owns_stored2 own _ _ _
        · exact gr_trans gr (gr_trans (own.stored _ _).2 ((own.stored _ _).1.stored _ _).2)
      case measure => simp [intOf]; omega
    · obtain rfl : k = n := by omega
      go_wp2
      go_ret
      refine ⟨rfl, ?_, gr⟩
      have := HL.out
      simpa [hmarked, this] using own

theorem markEdges_nil (s : Int) (w : World) : Calls Try.prog 19 #[.slice none 0 0, .int .i64 s] w fun e w' => e = .returned (.int .i64 s) ∧ w' = w := by
  go_enter Try.func19, Try.ntmps19
  go_wp2
  go_loop [1, 5] (fun q i => i = .int .i64 0 ∧ q = .int .i64 s) (fun _ _ => 0)
  case atStart => exact ⟨rfl, rfl⟩
  case round =>
    obtain ⟨rfl, rfl⟩ := hrel
    go_wp2
    go_ret
    exact ⟨rfl, rfl⟩

theorem markEdges_any (s : Int) (B n : Nat) (a : Option Addr) (cap : Nat) (rs : List Ch.Hold) (w : World) (hs0 : 0 < s) (hs1 : s ≤ 1099511627776) (hown : w.ownsRow B 33 2 (.slice a n cap) n (hcells rs)) (hn : n ≤ 1048579) :
    Calls Try.prog 19 #[.slice a n cap, .int .i64 s] w fun e w' => e = .returned (.int .i64 (s + 2 * n)) ∧ w'.ownsRow B 33 2 (.slice a n cap) n (hcells (hmarks s n)) ∧ w.grownBy w' (Value.slice a n cap).ownBlock := by
  rcases hown.2 with ⟨hv, h0⟩ | ⟨g, cp, cur, hv, _⟩
  · simp only [Value.slice.injEq] at hv
    obtain ⟨rfl, rfl, rfl⟩ := hv
    refine (markEdges_nil s w).mono ?_
    rintro e w1 ⟨rfl, rfl⟩
    exact ⟨by simp, World.ownsRow_nil _ _ _ _, ⟨rfl, rfl, rfl, Nat.le_refl _, fun _ _ _ => rfl⟩⟩
  · simp only [Value.slice.injEq, true_and] at hv
    obtain ⟨rfl, rfl⟩ := hv
    exact markEdges_some s B g n cap rs w hs0 hs1 hown hn

end Go.Proofs.Ytndihplibdhogaa
