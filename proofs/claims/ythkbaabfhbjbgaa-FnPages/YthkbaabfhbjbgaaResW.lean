/- Walks of the law's comparisons and marks of a result of bytes; PackPage once more, its two ways in one. -/
import Derived.Test.YthkbaabfhbjbgaaMarkW
import Derived.Test.YthkbaabfhbjbgaaPackV
namespace Go.Proofs.Ythkbaabfhbjbgaa
open Go.RowKit

theorem owns_lt {w : World} {base : Nat} {e : TypeId} {size : Nat} {v : Value} {n : Nat} {xs : List Value} (h : w.ownsRow base e size v n xs) (g : Nat) (hg : v.ownBlock = some g) : base ≤ g ∧ g < w.heap.size := by
  rcases h.2 with ⟨hv, _⟩ | ⟨g', cap', cur, hv, hb, hh, _⟩
  · subst hv; simp [Value.ownBlock] at hg
  · subst hv
    simp [Value.ownBlock] at hg
    subst hg
    refine ⟨hb, ?_⟩
    by_cases hlt : g' < w.heap.size
    · exact hlt
    · rw [Array.getElem?_eq_none (by omega)] at hh; cases hh

theorem owns_grown {w w' : World} {base : Nat} {e : TypeId} {size : Nat} {v : Value} {n : Nat} {xs : List Value} {row : Option Nat} (h : w.ownsRow base e size v n xs) (hg : w.grownBy w' row) (hne : ∀ g, v.ownBlock = some g → row ≠ some g) : w'.ownsRow base e size v n xs := by
  refine ⟨h.1, ?_⟩
  rcases h.2 with h' | ⟨g, cap, cur, hv, hb, hh, h1, h2, h3, h4⟩
  · exact .inl h'
  · refine .inr ⟨g, cap, cur, hv, hb, ?_, h1, h2, h3, h4⟩
    have hlt := (owns_lt h g (by rw [hv]; rfl)).2
    have := hne g (by rw [hv]; rfl)
    rw [hg.block g hlt (fun e => this e.symm)]; exact hh

theorem grown_cell {w w' : World} {row : Option Nat} (hg : w.grownBy w' row) {b o : Nat} {v : Value} (h : w.cell? ⟨b, o, none⟩ = some v) (hne : row ≠ some b) : w'.cell? ⟨b, o, none⟩ = some v :=
  (World.grownBy.cell_far hg ⟨b, o, none⟩ (lt_of_cell h) (fun e => hne e.symm)).trans h

theorem cells_grown {w w' : World} {row : Option Nat} {a : Option Addr} {m : Nat} {xs : List Value} (h : CellsAt w a m xs) (hg : w.grownBy w' row) (hB : ∀ b off, a = some ⟨b, off, none⟩ → row ≠ some b) : CellsAt w' a m xs := by
  refine ⟨h.1, fun hm => ?_⟩
  obtain ⟨b, off, ha, hc⟩ := h.2 hm
  refine ⟨b, off, ha, fun i hi => ?_⟩
  have hx : xs[i]? = some (xs[i]'(by rw [h.1]; exact hi)) := by simp
  rw [hx]
  exact grown_cell hg ((hc i hi).trans hx) (hB b off ha)

theorem gr_alloc {w w' : World} {o : Obj} {row : Option Nat} (h : (w.alloc o).grownBy w' row) : w.grownBy w' row :=
  ⟨h.os, h.tape, h.output, by have := h.size; simp at this; omega, fun k hk hne => (h.block k (by simp; omega) hne).trans (Below.heap_alloc w o k hk)⟩

/-- The bytes that PackPage hands back. -/
def resB (rs : List Ch.Row) : List Int := if Ch.pageFault rs = 0 then Ch.pageB rs else []

theorem implPack_any (a : Option Addr) (n cap : Nat) (rs : List Ch.Row) (w : World) (h : CellsAt w a (n * 3) (rcells rs)) (hn : n ≤ 1099511627776) :
    Calls Try.prog 12 #[.slice a n cap] w fun e w' => ∃ a' m c', e = .returned (.agg #[.int .i64 (Ch.pageFault rs), .slice a' m c']) ∧ m ≤ 19 ∧ w'.ownsRow w.heap.size 5 1 (.slice a' m c') m (bts (resB rs)) ∧ Below w.heap.size w w' := by
  by_cases h0 : Ch.pageFault rs = 0
  · refine (implPack_ok a n cap rs w h hn h0).mono ?_
    rintro e w' ⟨g, cp, rfl, own, b⟩
    have hl := h.rlen.out
    have := (Ch.allFit_of_page h0).2
    refine ⟨_, _, _, by rw [h0], by omega, ?_, b⟩
    unfold resB
    rw [if_pos h0]
    exact own
  · refine (implPack_no a n cap rs w h hn _ rfl (by simpa using h0)).mono ?_
    rintro e w' ⟨rfl, b⟩
    refine ⟨_, _, _, rfl, by omega, ?_, b⟩
    unfold resB
    rw [if_neg h0]
    exact World.ownsRow_nil _ _ _ _

theorem specPackP_any (a : Option Addr) (n cap : Nat) (rs : List Ch.Row) (w : World) (h : CellsAt w a (n * 3) (rcells rs)) (hn : n ≤ 1099511627776) :
    Calls Try.prog 26 #[.slice a n cap] w fun e w' => ∃ a' m c', e = .returned (.agg #[.int .i64 (Ch.pageFault rs), .slice a' m c']) ∧ m ≤ 19 ∧ w'.ownsRow w.heap.size 5 1 (.slice a' m c') m (bts (resB rs)) ∧ Below w.heap.size w w' := by
  by_cases h0 : Ch.pageFault rs = 0
  · refine (specPack_ok a n cap rs w h hn h0).mono ?_
    rintro e w' ⟨g, cp, rfl, own, b⟩
    have hl := h.rlen.out
    have := (Ch.allFit_of_page h0).2
    refine ⟨_, _, _, by rw [h0], by omega, ?_, b⟩
    unfold resB
    rw [if_pos h0]
    exact own
  · refine (specPack_no a n cap rs w h hn _ rfl (by simpa using h0)).mono ?_
    rintro e w' ⟨rfl, b⟩
    refine ⟨_, _, _, rfl, by omega, ?_, b⟩
    unfold resB
    rw [if_neg h0]
    exact World.ownsRow_nil _ _ _ _

set_option maxHeartbeats 400000 in
theorem eqBytesResult_same (c : Int) (a a' : Option Addr) (n cap cap' : Nat) (zs : List Int) (w : World) (h : CellsAt w a n (bts zs)) (h' : CellsAt w a' n (bts zs)) (hn : n ≤ 1099511627776) :
    Calls Try.prog 27 #[.agg #[.int .i64 c, .slice a n cap], .agg #[.int .i64 c, .slice a' n cap']] w fun e w' => e = .returned (.bool true) ∧ Below w.heap.size w w' := by
  have hcc : (c != c) = false := by simp
  have b0 : Below w.heap.size w ((w.alloc (.cells #[.int .i64 c, .slice a n cap] 30)).alloc (.cells #[.int .i64 c, .slice a' n cap'] 30)) := ((Below.refl _ _).alloc (Nat.le_refl _) _).alloc (by simp) _
  go_enter Try.func27, Try.ntmps27
  go_wp2_with fail
  refine (eqByteS_same a a' n cap cap' zs _ (h.below b0) (h'.below b0) hn).mono ?_
  rintro e w1 ⟨rfl, b1⟩
  go_wp2
  go_ret
  exact ⟨rfl, b0.trans (b1.mono (by simp; omega))⟩

set_option maxHeartbeats 400000 in
theorem markBytesResult_any (c : Int) (B : Nat) (a : Option Addr) (n cap : Nat) (zs : List Int) (w : World) (hown : w.ownsRow B 5 1 (.slice a n cap) n (bts zs)) (hn : n ≤ 1048579) :
    Calls Try.prog 29 #[.agg #[.int .i64 c, .slice a n cap], .int .i64 1] w fun e w' => e = .returned (.int .i64 (1 + n)) ∧ w'.ownsRow B 5 1 (.slice a n cap) n (bts (Ch.marks n)) ∧ w.grownBy w' (Value.slice a n cap).ownBlock := by
  rcases hown.2 with ⟨hv, h0⟩ | ⟨g, cp, cur, hv, _⟩
  · simp only [Value.slice.injEq] at hv
    obtain ⟨rfl, rfl, rfl⟩ := hv
    go_enter Try.func29, Try.ntmps29
    go_wp2_with fail
    refine (markByteS_nil _).mono ?_
    rintro e w1 ⟨rfl, rfl⟩
    go_wp2
    go_ret
    exact ⟨rfl, World.ownsRow_nil _ _ _ _, gr_alloc ⟨rfl, rfl, rfl, Nat.le_refl _, fun _ _ _ => rfl⟩⟩
  · simp only [Value.slice.injEq, true_and] at hv
    obtain ⟨rfl, rfl⟩ := hv
    go_enter Try.func29, Try.ntmps29
    go_wp2_with fail
    refine (markByteS_any B g n cap zs _ (hown.alloc _) hn).mono ?_
    rintro e w1 ⟨rfl, own1, gr1⟩
    go_wp2
    go_ret
    exact ⟨rfl, own1, gr_alloc gr1⟩

set_option maxHeartbeats 400000 in
theorem heldBytesResult_any (c : Int) (a : Option Addr) (n cap : Nat) (w : World) (h : CellsAt w a n (bts (Ch.marks n))) (hn : n ≤ 1048579) :
    Calls Try.prog 30 #[.agg #[.int .i64 c, .slice a n cap], .int .i64 1] w fun e w' => e = .returned (.int .i64 (1 + n)) ∧ Below w.heap.size w w' := by
  go_enter Try.func30, Try.ntmps30
  go_wp2_with fail
  refine (heldByteS_any a n cap _ (h.below ((Below.refl _ _).alloc (Nat.le_refl _) _)) hn).mono ?_
  rintro e w1 ⟨rfl, rfl⟩
  go_wp2
  go_ret
  exact ⟨rfl, (Below.refl _ _).alloc (Nat.le_refl _) _⟩
end Go.Proofs.Ythkbaabfhbjbgaa
