/- The draws of rows: any rows. -/
import Derived.Test.YthkbaabfhbjbgaaPagA
namespace Go.Proofs.Ythkbaabfhbjbgaa
open Go.RowKit

theorem source_any (a : Option Addr) (n cap : Nat) (zs : List Int) (w : World) (h : CellsAt w a n (bts zs)) :
    Calls Try.prog 37 #[.slice a n cap] w fun e w' => e = .returned (.pointer (some ⟨w.heap.size, 0, none⟩)) ∧ Src w' w.heap.size a n cap 0 zs ∧ Below w.heap.size w w' := by
  have b0 : Below w.heap.size w (w.alloc (.cells #[.slice a n cap, .int .i64 0] 67)) := (Below.refl _ _).alloc (Nat.le_refl _) _
  go_enter Try.func37, Try.ntmps37
  go_wp2
  go_ret
  refine ⟨rfl, ⟨heap_alloc_new w _, fun hn b off ha => ?_, h.below b0⟩, b0⟩
  subst ha
  obtain ⟨b', off', hb, hc⟩ := h.at hn
  simp only [Option.some.injEq, Addr.mk.injEq, and_true] at hb
  obtain ⟨rfl, rfl⟩ := hb
  exact lt_of_cell hc

set_option maxHeartbeats 1000000 in
theorem pick_any (g : Nat) (u0 u1 u2 : Int) (s : Nat) (a : Option Addr) (n cap k : Nat) (zs : List Int) (w : World) (h : Src w s a n cap k zs) (hb : IsB zs) (hn : n ≤ 1048576) (hk : k ≤ 1000)
    (hg : w.heap[g]? = some (.cells #[.int .i64 u0, .int .i64 u1, .int .i64 u2] 2 (0, 0))) (hs : g ≠ s) :
    Calls Try.prog 62 #[.pointer (some ⟨s, 0, none⟩), .slice (some ⟨g, 0, none⟩) 3 3] w fun e w' => (∃ v : Int, e = .returned (.int .i64 v)) ∧ Src w' s a n cap (k + 1) zs ∧ w.grownBy w' (some s) := by
  go_enter Try.func62, Try.ntmps62
  go_wp2_with fail
  refine (next_any 3 s a n cap k zs w h hb hn hk (by omega) (by omega)).mono ?_
  rintro e w1 ⟨⟨v, v0, v1, rfl⟩, s1, g1⟩
  have q := gr_heap g1 hg (by simp; omega)
  have q0 : w1.cell? ⟨g, 0, none⟩ = _ := cell_of_row _ _ _ _ _ _ q
  have q1 : w1.cell? ⟨g, 1, none⟩ = _ := cell_of_row _ _ _ _ _ _ q
  have q2 : w1.cell? ⟨g, 2, none⟩ = _ := cell_of_row _ _ _ _ _ _ q
  simp at q0 q1 q2
  have hv : v = 0 ∨ v = 1 ∨ v = 2 := by omega
  rcases hv with rfl | rfl | rfl
  all_goals
    go_wp2
    go_ret
    exact ⟨⟨_, rfl⟩, s1, g1⟩

theorem gr_on {w w' w'' : World} {row : Option Nat} (h : w.grownBy w' row) (hb : Below w.heap.size w' w'') : w.grownBy w'' row :=
  ⟨hb.os.trans h.os, hb.tape.trans h.tape, hb.output.trans h.output, Nat.le_trans h.size hb.size, fun k hk hne => (hb.block k hk).trans (h.block k hk hne)⟩
theorem allFit_snoc {rs : List Ch.Row} {r : Ch.Row} (h : Ch.AllFit rs) (hr : r.fits) : Ch.AllFit (rs ++ [r]) := by
  intro i
  by_cases hi : i < rs.length
  · have := h i
    simpa [List.getD, List.getElem?_append_left hi] using this
  · by_cases he : i = rs.length
    · subst he; simpa [List.getD] using hr
    · have : (rs ++ [r]).getD i Ch.Row.zero = Ch.Row.zero := by simp [List.getD, List.getElem?_eq_none (show (rs ++ [r]).length ≤ i by simp; omega)]
      rw [this]; unfold Ch.Row.fits Ch.Row.zero; decide

set_option maxHeartbeats 2000000 in
theorem rows_any (m : Nat) (s : Nat) (a : Option Addr) (n cap k : Nat) (zs : List Int) (w : World) (h : Src w s a n cap k zs) (hb : IsB zs) (hn : n ≤ 1048576) (hk : k ≤ 500) (hm : m ≤ 5) :
    Calls Try.prog 39 #[.pointer (some ⟨s, 0, none⟩), .int .i64 m] w fun e w' => (∃ g cp, e = .returned (.slice (some ⟨g, 0, none⟩) m cp) ∧ ∃ rs, Ch.AllFit rs ∧ w'.ownsRow w.heap.size 36 3 (.slice (some ⟨g, 0, none⟩) m cp) m (rcells rs)) ∧ (∃ k', k' ≤ k + 21 ∧ Src w' s a n cap k' zs) ∧ w.grownBy w' (some s) := by
  have hlt := h.lt
  go_enter Try.func39, Try.ntmps39
  go_wp2_with fail
  refine (next_any 5 s a n cap k zs _ h.new hb hn (by omega) (by omega) (by omega)).mono ?_
  rintro e w1 ⟨⟨x, x0, x1, rfl⟩, s1, g1⟩
  have own0 : (w.alloc (.cells #[] 36)).ownsRow w.heap.size 36 3 (.slice (some ⟨w.heap.size, 0, none⟩) 0 0) 0 (rcells []) := World.ownsRow_made w #[] 0 (Nat.le_refl _) (by unfold maxLen; omega) rfl
  have own1 := owns_grown own0 g1 (fun g hg => by simp [Value.ownBlock] at hg; simp; omega)
  have g1' := gr_alloc g1
  clear g1 own0
  go_wp2_with fail
  go_loopw [1, 5, 6] (fun mv v t wr => ∃ (j r g cp : Nat) (x : Int) (rs : List Ch.Row), j + r = m ∧ mv = .int .i64 r ∧ v = .slice (some ⟨g, 0, none⟩) j cp ∧ t = .int .i64 x ∧ 0 ≤ x ∧ x ≤ 4 + 5 * j ∧ Ch.AllFit rs ∧
    wr.ownsRow w.heap.size 36 3 (.slice (some ⟨g, 0, none⟩) j cp) j (rcells rs) ∧ Src wr s a n cap (k + 1 + 4 * j) zs ∧ w.grownBy wr (some s)) (fun mv _ _ _ => (intOf mv).toNat)
  case atStart => exact ⟨0, m, _, _, x, [], by omega, rfl, rfl, rfl, x0, by omega, fun i => by simp [Ch.Row.fits, Ch.Row.zero], own1, s1, g1'⟩
  case round =>
    obtain ⟨j, r, g, cp, x, rs, hjr, rfl, rfl, rfl, x0, x1, fit, own, sr, gr⟩ := hrel
    by_cases hr : 0 < r
    · have gB := owns_bounds own
      have hx9 : x ≤ 99 := by omega
      have hi : (0 : Int) < (r : Int) := by omega
      go_wp2_with fail
      refine (row_any s a n cap _ zs _ sr hb hn (by omega)).mono ?_
      rintro e w2 ⟨⟨⟨rk, rv, rg⟩, rf, rfl⟩, s2, g2⟩
      obtain ⟨_, _, v0, v1⟩ := rf
      simp only at v0 v1
      have own2 := owns_grown own g2 (fun g' hg => by simp [Value.ownBlock] at hg; simp; omega)
      have gr2 := gr_trans gr g2
      have z2 := g2.size
      have z0 := gr.size
      simp only
      go_wp2_with fail
      refine (next_any 5 s a n cap _ zs _ s2.new hb hn (by omega) (by omega) (by omega)).mono ?_
      rintro e w3 ⟨⟨y, y0, y1, rfl⟩, s3, g3⟩
      have own3 := owns_grown (own2.alloc _) g3 (fun g' hg => by simp [Value.ownBlock] at hg; simp; omega)
      have p := gr_heap g3 (heap_alloc_new w2 _) (by simp; omega)
      have gr3 := gr_trans gr2 (gr_alloc g3)
      have z3 := g3.size
      simp at z3
      have p0 : w3.cell? ⟨w2.heap.size, 0, none⟩ = _ := cell_of_row _ _ _ _ _ _ p
      have p1 : w3.cell? ⟨w2.heap.size, 1, none⟩ = _ := cell_of_row _ _ _ _ _ _ p
      have p2 : w3.cell? ⟨w2.heap.size, 2, none⟩ = _ := cell_of_row _ _ _ _ _ _ p
      simp at p0 p1 p2
      clear p g3 g2 own own2 sr gr
      simp only
      go_wp2_with (at_builtin; refine wpList_appR (.tmp 24) (.tmp 26) w.heap.size (.slice (some ⟨g, 0, none⟩) j cp) j rs ⟨x, rv, rg⟩ (by omega) ?_ ?_ ?_ ?_ ?_ ?_ ?_; exact rfl; exact rfl; exact rfl; (refine ⟨_, _, 36, rfl, ?_⟩; exact heap_new' rfl); exact own3.alloc _; (simp; omega); intro g4 c4 w4 own4 b4)
      go_roundw
      case rel =>
        refine ⟨j + 1, r - 1, g4, c4, x + 1 + y, rs ++ [⟨x, rv, rg⟩], by omega, by go_num, rfl, by go_num, by omega, by omega, allFit_snoc fit ⟨x0, hx9, v0, v1⟩, own4, ?_, ?_⟩
        · have := s3.new.below b4 (by omega)
          rw [show k + 1 + 4 * (j + 1) = k + 1 + 4 * j + 3 + 1 by omega]
          exact this
        · exact gr_on (gr_new gr3) b4
      case measure => simp [intOf]; omega
    · have hi : ¬ (0 : Int) < (r : Int) := by omega
      obtain rfl : j = m := by omega
      go_wp2
      go_ret
      exact ⟨⟨g, cp, rfl, rs, fit, own⟩, ⟨_, by omega, sr⟩, gr⟩
end Go.Proofs.Ythkbaabfhbjbgaa
