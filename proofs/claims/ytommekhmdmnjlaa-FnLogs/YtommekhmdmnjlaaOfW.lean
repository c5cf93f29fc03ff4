
/- The count of a log's records beside it: of the program; a log out of two lists: of the model. -/
import Derived.Test.YtommekhmdmnjlaaConcatW
namespace Go.Proofs.Ytommekhmdmnjlaa
open Go.RowKit

theorem below_boxU {w w1 : World} {o o' : Obj} (b : Below (w.heap.size + 1) ((w.alloc o).alloc o') w1) : Below (w.heap.size + 1) (w.alloc o) w1 :=
  ((Below.refl _ _).alloc (by simp) _).trans b
theorem row4 {W : World} {g : Nat} {t : TypeId} {u0 u1 u2 u3 : Value} (h : W.heap[g]? = some (.cells #[u0, u1, u2, u3] t (0, 0))) :
    W.cell? ⟨g, 0, none⟩ = some u0 ∧ W.cell? ⟨g, 1, none⟩ = some u1 ∧ W.cell? ⟨g, 2, none⟩ = some u2 ∧ W.cell? ⟨g, 3, none⟩ = some u3 :=
  ⟨cell_of_row _ _ _ _ _ _ h, cell_of_row _ _ _ _ _ _ h, cell_of_row _ _ _ _ _ _ h, cell_of_row _ _ _ _ _ _ h⟩
theorem frz4 {W : World} {g : Nat} {t : TypeId} {cs : Array Value} (h : W.heap[g]? = some (.cells cs t (0, 0))) :
    W.frozen? ⟨g, 0, none⟩ = false ∧ W.frozen? ⟨g, 1, none⟩ = false ∧ W.frozen? ⟨g, 2, none⟩ = false ∧ W.frozen? ⟨g, 3, none⟩ = false :=
  ⟨Joins.unfrozen_of_block h _, Joins.unfrozen_of_block h _, Joins.unfrozen_of_block h _, Joins.unfrozen_of_block h _⟩

set_option linter.unusedSimpArgs false in
set_option maxHeartbeats 2000000 in
theorem counted_any (a a' : Option Addr) (n m cap cap' : Nat) (ss ls : List Int) (w : World) (h : CellsAt w a n (bts ss)) (h' : CellsAt w a' m (bts ls)) (hb : IsB ss) (hb' : IsB ls) (hn : n ≤ 1048576) (hm : m ≤ 1048576) (hcap : n ≤ cap) (hcap' : m ≤ cap') :
    Calls Try.prog 36 #[.agg #[.slice a n cap, .slice a' m cap']] w fun e w' => e = .returned (.agg #[.int .i64 0, .int .i64 ((Ch.reads ss).length + (Ch.reads ls).length), .slice a n cap, .slice a' m cap']) ∧ Below w.heap.size w w' := by
  have r1 : 5 * (Ch.reads ss).length ≤ n := Nat.le_trans (Ch.reads_le ss) (by have := Ch.used_le ss; have := h.len.out; omega)
  have r2 : 5 * (Ch.reads ls).length ≤ m := Nat.le_trans (Ch.reads_le ls) (by have := Ch.used_le ls; have := h'.len.out; omega)
  have c1 := countRecs_any a n cap ss
  have c2 := countRecs_any a' m cap' ls
  generalize (Ch.reads ss).length = p at *
  generalize (Ch.reads ls).length = q at *
  have hwp : IntKind.i64.wrap ((p : Int) + (q : Int)) = (p : Int) + (q : Int) := IntWalk.i64_in _ ⟨by omega, by omega⟩
  go_enter Try.func36, Try.ntmps36
  go_upto_region 1 with fail
  have HS : Hid (∀ W', Below (w.heap.size + 1) ((w.alloc (.cells #[.slice a n cap, .slice a' m cap'] 25)).alloc (.cells #[.int .i64 0, .int .i64 0, .slice none 0 0, .slice none 0 0] 29)) W' → W'.cell? ⟨w.heap.size, 0, none⟩ = some (.slice a n cap) ∧ W'.cell? ⟨w.heap.size, 1, none⟩ = some (.slice a' m cap') ∧ Below (w.heap.size + 1) ((w.alloc (.cells #[.slice a n cap, .slice a' m cap'] 25)).alloc (.cells #[.int .i64 0, .int .i64 0, .slice none 0 0, .slice none 0 0] 29)) W') := fun W' hb' => ⟨by simpa using box_at (below_boxU hb') 0, by simpa using box_at (below_boxU hb') 1, hb'⟩
  refine wp_region_noPanic ?_
  refine wp_region_held_drew (S := fun W' => W'.cell? ⟨w.heap.size, 0, none⟩ = some (.slice a n cap) ∧ W'.cell? ⟨w.heap.size, 1, none⟩ = some (.slice a' m cap') ∧ Below (w.heap.size + 1) ((w.alloc (.cells #[.slice a n cap, .slice a' m cap'] 25)).alloc (.cells #[.int .i64 0, .int .i64 0, .slice none 0 0, .slice none 0 0] 29)) W') (by kernel_rfl) (HS.out _ (Below.refl _ _).drew) (fun hH => ?_)
  refine hTake (i := 0) (v := ?_) rfl (by kernel_rfl) (by kernel_rfl) (by kernel_rfl) (by rfl) ?_ hH ?_
  rotate_left
  · intro W hW; (try dsimp only at hW); go_simp <;> with_reducible rfl
  simp only [Act.put, List.setIfInBounds_toArray, List.set_cons_zero, List.set_cons_succ]
  refine hTake (i := 1) (v := ?_) rfl (by kernel_rfl) (by kernel_rfl) (by kernel_rfl) (by rfl) ?_ hH ?_
  rotate_left
  · intro W hW; (try dsimp only at hW); go_simp <;> with_reducible rfl
  simp only [Act.put, List.setIfInBounds_toArray, List.set_cons_zero, List.set_cons_succ]
  refine hTake (i := 3) (v := ?_) rfl (by kernel_rfl) (by kernel_rfl) (by kernel_rfl) (by rfl) ?_ hH ?_
  rotate_left
  · intro W hW; (try dsimp only at hW); go_simp <;> with_reducible rfl
  simp only [Act.put, List.setIfInBounds_toArray, List.set_cons_zero, List.set_cons_succ]
  refine hTake (i := 4) (v := ?_) rfl (by kernel_rfl) (by kernel_rfl) (by kernel_rfl) (by rfl) ?_ hH ?_
  rotate_left
  · intro W hW; (try dsimp only at hW); go_simp <;> with_reducible rfl
  simp only [Act.put, List.setIfInBounds_toArray, List.set_cons_zero, List.set_cons_succ]
  refine hTake (i := 7) (v := ?_) rfl (by kernel_rfl) (by kernel_rfl) (by kernel_rfl) (by rfl) ?_ hH ?_
  rotate_left
  · intro W hW; (try dsimp only at hW); go_simp <;> with_reducible rfl
  simp only [Act.put, List.setIfInBounds_toArray, List.set_cons_zero, List.set_cons_succ]
  refine wpAnyH_ready (rs := [2]) (by kernel_rfl) (by simp) ?_
  refine AllReadyH.cons rfl (fun K hK => ?_) AllReadyH.nil
  go_simp
  refine (c1 _ (h.below (below_boxS (below_boxU hH.2.2))) hb hn hcap).mono ?_
  rintro e w1 ⟨rfl, b1⟩
  have b1A : Below (w.heap.size + 2) ((w.alloc (.cells #[.slice a n cap, .slice a' m cap'] 25)).alloc (.cells #[.int .i64 0, .int .i64 0, .slice none 0 0, .slice none 0 0] 29)) w1 := (Below.refl _ _).drew.trans (b1.mono (by simp))
  go_wp2_with fail
  refine hK.out _ _ ?_ (fun hH => ?_)
  · exact HS.out _ (b1A.mono (by omega))
  clear hK K
  refine wpAnyH_ready (rs := [5]) (by kernel_rfl) (by simp) ?_
  refine AllReadyH.cons rfl (fun K hK => ?_) AllReadyH.nil
  go_simp
  refine (c2 _ (h'.below (below_boxS (below_boxU hH.2.2))) hb' hm hcap').mono ?_
  rintro e w2 ⟨rfl, b2⟩
  have b2A : Below (w.heap.size + 2) ((w.alloc (.cells #[.slice a n cap, .slice a' m cap'] 25)).alloc (.cells #[.int .i64 0, .int .i64 0, .slice none 0 0, .slice none 0 0] 29)) w2 := b1A.trans (b2.mono (by have := b1A.size; simp at this; omega))
  go_wp2_with fail
  refine hK.out _ _ ?_ (fun hH => ?_)
  · exact HS.out _ (b2A.mono (by omega))
  clear hK K
  refine hTake (i := 6) (v := ?_) rfl (by kernel_rfl) (by kernel_rfl) (by kernel_rfl) (by rfl) ?_ hH ?_
  rotate_left
  · intro W hW; (try dsimp only at hW); go_simp <;> with_reducible rfl
  simp only [Act.put, List.setIfInBounds_toArray, List.set_cons_zero, List.set_cons_succ]
  refine hTake (i := 8) (v := ?_) rfl (by kernel_rfl) (by kernel_rfl) (by kernel_rfl) (by rfl) ?_ hH ?_
  rotate_left
  · intro W hW; (try dsimp only at hW); go_simp <;> with_reducible rfl
  simp only [Act.put, List.setIfInBounds_toArray, List.set_cons_zero, List.set_cons_succ]
  have hRw : w2.heap[w.heap.size + 1]? = some (.cells #[.int .i64 0, .int .i64 0, .slice none 0 0, .slice none 0 0] 29 (0, 0)) := (b2A.block (w.heap.size + 1) (by omega)).trans (heap_new' (by simp))
  obtain ⟨x0, x1, x2, x3⟩ := row4 hRw
  obtain ⟨f0, f1, f2, f3⟩ := frz4 hRw
  have bE := below_boxS (below_boxT b2A)
  refine wpAnyH_ready (rs := [9]) (by kernel_rfl) (by simp) ?_
  refine AllReadyH.cons rfl (fun K hK => ?_) AllReadyH.nil
  go_simp
  refine hK.out _ _ ?_ (fun hH => ?_)
  · exact HS.out _ (((((b2A.mono (show w.heap.size + 1 ≤ w.heap.size + 2 by omega)).setCell (p := ⟨w.heap.size + 1, 0, none⟩) (by simp) _).setCell (p := ⟨w.heap.size + 1, 1, none⟩) (by simp) _).setCell (p := ⟨w.heap.size + 1, 2, none⟩) (by simp) _).setCell (p := ⟨w.heap.size + 1, 3, none⟩) (by simp) _)
  clear hK K
  refine wpAnyH_done (by kernel_rfl) ?_ _
  refine NoPanic.normal ?_
  clear hH HS
  go_wp2
  refine bodyPost_ret (v := .agg #[.int .i64 0, .int .i64 (p + q), .slice a n cap, .slice a' m cap']) (by simp [results, Try.results36, go_sem, x0, x1, x2, x3]) rfl ⟨?_, ?_⟩
  · rfl
  · exact (((bE.setCell (p := ⟨w.heap.size + 1, 0, none⟩) (by simp) _).setCell (p := ⟨w.heap.size + 1, 1, none⟩) (by simp) _).setCell (p := ⟨w.heap.size + 1, 2, none⟩) (by simp) _).setCell (p := ⟨w.heap.size + 1, 3, none⟩) (by simp) _

set_option maxRecDepth 10000 in
set_option maxHeartbeats 2000000 in
theorem l2Of_nil (ad : Addr) (n cap : Nat) (ss : List Int) (w : World) (h : CellsAt w (some ad) n (bts ss)) (hb : IsB ss) (hn : n ≤ 1048576) (hcap : n ≤ cap) :
    Calls Try.prog 41 #[.slice (some ad) n cap, .slice none 0 0] w fun e w' => ∃ a1 c1 a2 c2, e = .returned (.agg #[.int .i64 0, .int .i64 (Ch.reads ss).length, .slice a1 n c1, .slice a2 0 c2]) ∧
      w'.ownsRow w.heap.size 5 1 (.slice a1 n c1) n (bts ss) ∧ Below w.heap.size w w' := by
  have r1 : 5 * (Ch.reads ss).length ≤ n := Nat.le_trans (Ch.reads_le ss) (by have := Ch.used_le ss; have := h.len.out; omega)
  have b0 : Below w.heap.size w (w.alloc (.cells #[.int .i64 0, .int .i64 0, .slice none 0 0, .slice none 0 0] 29)) := (Below.refl _ _).alloc (Nat.le_refl _) _
  have m1 : 0 + n ≤ 1099511627776 := by omega
  obtain ⟨i0, hi, hz0, hz1, hz2⟩ := info_parts Try.info5
  have nilR : Ch.reads [] = [] := rfl
  have hnilC : ∀ W : World, CellsAt W none 0 (bts []) := fun W => ⟨rfl, fun h => absurd h (by simp)⟩
  go_enter Try.func41, Try.ntmps41
  go_wp2_with fail
  refine (l2Read_any (some ad) n cap ss _ (h.below b0) hb hn hcap).mono ?_
  rintro e w1 ⟨g1, k1, rfl, _, b1⟩
  have b1A := b0.trans (b1.mono b0.size)
  have c1 := box_cell b1 0
  go_wp2_with fail
  refine (l2Read_any none 0 0 [] _ (hnilC _) (fun i => by simp) (by omega) (Nat.le_refl _)).mono ?_
  rintro e w2 ⟨g2, k2, rfl, _, b2⟩
  rw [nilR, List.length_nil]
  have b2A := b1A.trans (b2.mono b1A.size)
  have hRw : w2.heap[w.heap.size]? = some (.cells #[.int .i64 0, .int .i64 0, .slice none 0 0, .slice none 0 0] 29 (0, 0)) := (b2.block w.heap.size (by have := b1.size; simp at this; omega)).trans ((b1.block w.heap.size (by simp)).trans (heap_new' rfl))
  obtain ⟨x0, x1, x2, x3⟩ := row4 hRw
  obtain ⟨f0, f1, f2, f3⟩ := frz4 hRw
  have hc2 := h.below (b2A.alloc b2A.size (.cells #[] 5))
  have ho := empty_own w2 (w.heap.size + 1) (by have := lt_of_cell x0; omega)
  have hz : w.heap.size + 1 ≤ w2.heap.size := lt_of_cell x0
  have hz' : w.heap.size + 1 ≤ (w2.alloc (.cells #[] 5)).heap.size := by simp; omega
  have lA : w.heap.size < w.heap.size + 1 := by omega
  have lB : w.heap.size < w2.heap.size := by omega
  clear c1 b1 b2
  generalize hpp : (Ch.reads ss).length = p at *
  have hwp : IntKind.i64.wrap ((p : Int) + 0) = (p : Int) := by rw [Int.add_zero]; exact IntWalk.i64_in _ ⟨by omega, by omega⟩
  go_wp2_with (at_builtin; refine wpList_appV (.tmp 24) (.tmp 25) (w.heap.size + 1) (.slice (some ⟨w2.heap.size, 0, none⟩) 0 0) 0 [] n ss m1 ?_ ?_ ?_ ?_ ?_ ?_ ?_; exact rfl; exact rfl; exact rfl; exact ⟨_, _, rfl, hc2⟩; exact ho; exact hz'; intro a3 k3 w3 o3 bb3; have hR3 := (bb3.block w.heap.size lA).trans ((heap_old' lB).trans hRw); obtain ⟨y0, y1, y2, y3⟩ := row4 hR3; obtain ⟨g0, g1', g2', g3⟩ := frz4 hR3; have lC := lt_of_cell y0)
  have hz3 := bb3.size
  simp at hz3
  have b3A : Below w.heap.size w w3 := (b2A.alloc b2A.size _).trans (bb3.mono (by omega))
  refine bodyPost_ret (v := .agg #[.int .i64 0, .int .i64 p, .slice a3 n k3, .slice (some ⟨w3.heap.size, 0, none⟩) 0 0]) (by simp [results, Try.results41, go_sem, lC, y0, y1, y2, y3]) rfl ⟨a3, k3, some ⟨w3.heap.size, 0, none⟩, 0, by rw [hpp], ?_, ?_⟩
  · rw [Nat.zero_add, List.nil_append] at o3
    exact owns_base (((((ownsRow_setCell_below (a := ⟨w.heap.size, 3, none⟩) (ownsRow_setCell_below (a := ⟨w.heap.size, 2, none⟩) (ownsRow_setCell_below (a := ⟨w.heap.size, 1, none⟩) (ownsRow_setCell_below (a := ⟨w.heap.size, 0, none⟩) o3 (by simp) _) (by simp) _) (by simp) _) (by simp) _)).alloc _))) (by omega)
  · repeat (first | with_reducible exact b3A | with_reducible refine Below.drew ?_ | with_reducible refine Below.alloc ?_ (by first | omega | (simp; done) | (simp; omega)) _ | with_reducible refine Below.setCell ?_ (by simp) _)
end Go.Proofs.Ytommekhmdmnjlaa
