
/- l2Of of two lists; AppendWal of the model, where the record has a fault. -/
import Derived.Test.YtommekhmdmnjlaaAppW
import Derived.Test.YtommekhmdmnjlaaForceS
namespace Go.Proofs.Ytommekhmdmnjlaa
open Go.RowKit

set_option maxRecDepth 10000 in
set_option maxHeartbeats 4000000 in
theorem l2Of_two (ad ad' : Addr) (n m cap cap' : Nat) (ss ls : List Int) (w : World) (h : CellsAt w (some ad) n (bts ss)) (h' : CellsAt w (some ad') m (bts ls)) (hb : IsB ss) (hb' : IsB ls) (hn : n ≤ 1048576) (hm : m ≤ 1048576) (hcap : n ≤ cap) (hcap' : m ≤ cap') :
    Calls Try.prog 41 #[.slice (some ad) n cap, .slice (some ad') m cap'] w fun e w' => ∃ a1 c1 a2 c2, e = .returned (.agg #[.int .i64 0, .int .i64 ((Ch.reads ss).length + (Ch.reads ls).length), .slice a1 n c1, .slice a2 m c2]) ∧
      w'.ownsRow w.heap.size 5 1 (.slice a1 n c1) n (bts ss) ∧ w'.ownsRow w.heap.size 5 1 (.slice a2 m c2) m (bts ls) ∧ Below w.heap.size w w' := by
  have r1 : 5 * (Ch.reads ss).length ≤ n := Nat.le_trans (Ch.reads_le ss) (by have := Ch.used_le ss; have := h.len.out; omega)
  have r2 : 5 * (Ch.reads ls).length ≤ m := Nat.le_trans (Ch.reads_le ls) (by have := Ch.used_le ls; have := h'.len.out; omega)
  have b0 : Below w.heap.size w (w.alloc (.cells #[.int .i64 0, .int .i64 0, .slice none 0 0, .slice none 0 0] 29)) := (Below.refl _ _).alloc (Nat.le_refl _) _
  have m1 : 0 + n ≤ 1099511627776 := by omega
  have m2 : 0 + m ≤ 1099511627776 := by omega
  obtain ⟨i0, hi, hz0, hz1, hz2⟩ := info_parts Try.info5
  go_enter Try.func41, Try.ntmps41
  go_wp2_with fail
  refine (l2Read_any (some ad) n cap ss _ (h.below b0) hb hn hcap).mono ?_
  rintro e w1 ⟨g1, k1, rfl, _, b1⟩
  have b1A := b0.trans (b1.mono b0.size)
  have c1 := box_cell b1 0
  go_wp2_with fail
  refine (l2Read_any (some ad') m cap' ls _ (h'.below b1A) hb' hm hcap').mono ?_
  rintro e w2 ⟨g2, k2, rfl, _, b2⟩
  have b2A := b1A.trans (b2.mono b1A.size)
  have hRw : w2.heap[w.heap.size]? = some (.cells #[.int .i64 0, .int .i64 0, .slice none 0 0, .slice none 0 0] 29 (0, 0)) := (b2.block w.heap.size (by have := b1.size; simp at this; omega)).trans ((b1.block w.heap.size (by simp)).trans (heap_new' rfl))
  obtain ⟨x0, x1, x2, x3⟩ := row4 hRw
  have hc2 := h.below (b2A.alloc b2A.size (.cells #[] 5))
  have ho := empty_own w2 (w.heap.size + 1) (by have := lt_of_cell x0; omega)
  have hz : w.heap.size + 1 ≤ w2.heap.size := lt_of_cell x0
  have hz' : w.heap.size + 1 ≤ (w2.alloc (.cells #[] 5)).heap.size := by simp; omega
  have lA : w.heap.size < w.heap.size + 1 := by omega
  have lB : w.heap.size < w2.heap.size := by omega
  have b2L := b2A.alloc b2A.size (.cells #[] 5)
  clear c1 b1 b2
  generalize hpp : (Ch.reads ss).length = p at *
  generalize hqq : (Ch.reads ls).length = q at *
  have hwp : IntKind.i64.wrap ((p : Int) + (q : Int)) = (p : Int) + (q : Int) := IntWalk.i64_in _ ⟨by omega, by omega⟩
  clear x0 x1 x2 x3
  go_wp2_with (at_builtin; first
    | (refine wpList_appV (.tmp 24) (.tmp 25) (w.heap.size + 1) (.slice (some ⟨w2.heap.size, 0, none⟩) 0 0) 0 [] n ss m1 ?_ ?_ ?_ ?_ ?_ ?_ ?_; exact rfl; exact rfl; exact rfl; exact ⟨_, _, rfl, hc2⟩; exact ho; exact hz'; intro a3 k3 w3 o3 bb3; have b3A := b2L.trans (bb3.mono (Nat.le_succ _)); have hz3 : w.heap.size + 1 ≤ w3.heap.size := Nat.le_trans hz' bb3.size; have hR3 := (bb3.block w.heap.size lA).trans ((heap_old' lB).trans hRw); have ho3 := empty_own w3 (w3.heap.size) (Nat.le_refl _); have hc3 := h'.below (b3A.alloc b3A.size (.cells #[] 5)); have o3L := owns_below o3 ((Below.refl _ w3).alloc (Nat.le_refl _) (.cells #[] 5)); have hz4 : w3.heap.size ≤ (w3.alloc (.cells #[] 5)).heap.size := by simp)
    | (refine wpList_appV (.tmp 27) (.tmp 28) w3.heap.size (.slice (some ⟨w3.heap.size, 0, none⟩) 0 0) 0 [] m ls m2 ?_ ?_ ?_ ?_ ?_ ?_ ?_; exact rfl; exact rfl; exact rfl; exact ⟨_, _, rfl, hc3⟩; exact ho3; exact hz4; intro a4 k4 w4 o4 bb4; have hR4 := (bb4.block w.heap.size hz3).trans ((heap_old' hz3).trans hR3); obtain ⟨y0, y1, y2, y3⟩ := row4 hR4; obtain ⟨g0, g1', g2', g3⟩ := frz4 hR4; have lC := lt_of_cell y0))
  have b34 : Below w3.heap.size w3 w4 := ((Below.refl _ w3).alloc (Nat.le_refl _) _).trans bb4
  have b4A : Below w.heap.size w w4 := b3A.trans (b34.mono (by omega))
  have o3' := owns_below o3 b34
  refine bodyPost_ret (v := .agg #[.int .i64 0, .int .i64 ((p : Int) + (q : Int)), .slice a3 n k3, .slice a4 m k4]) (by simp [results, Try.results41, go_sem, y0, y1, y2, y3]) rfl ⟨a3, k3, a4, k4, by rw [hpp, hqq], ?_, ?_, ?_⟩
  · rw [Nat.zero_add, List.nil_append] at o3'
    exact owns_base (ownsRow_setCell_below (a := ⟨w.heap.size, 3, none⟩) (ownsRow_setCell_below (a := ⟨w.heap.size, 2, none⟩) (ownsRow_setCell_below (a := ⟨w.heap.size, 1, none⟩) (ownsRow_setCell_below (a := ⟨w.heap.size, 0, none⟩) o3' (by simp) _) (by simp) _) (by simp) _) (by simp) _) (by omega)
  · rw [Nat.zero_add, List.nil_append] at o4
    exact owns_base (ownsRow_setCell_below (a := ⟨w.heap.size, 3, none⟩) (ownsRow_setCell_below (a := ⟨w.heap.size, 2, none⟩) (ownsRow_setCell_below (a := ⟨w.heap.size, 1, none⟩) (ownsRow_setCell_below (a := ⟨w.heap.size, 0, none⟩) o4 (by simp; omega) _) (by simp; omega) _) (by simp; omega) _) (by simp; omega) _) (by omega)
  · repeat (first | with_reducible exact b4A | with_reducible refine Below.drew ?_ | with_reducible refine Below.alloc ?_ (by first | omega | (simp; done) | (simp; omega)) _ | with_reducible refine Below.setCell ?_ (by simp) _)

end Go.Proofs.Ytommekhmdmnjlaa
