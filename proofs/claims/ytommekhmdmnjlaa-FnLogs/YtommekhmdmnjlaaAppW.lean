
/- AppendWal: the ways that end in a code. -/
import Derived.Test.YtommekhmdmnjlaaForceW
import Derived.Test.YtommekhmdmnjlaaPackL
namespace Go.Proofs.Ytommekhmdmnjlaa
open Go.RowKit

theorem below_boxes3 {w w1 : World} {o o' o'' : Obj} (b : Below (((w.alloc o).alloc o').alloc o'').heap.size (((w.alloc o).alloc o').alloc o'') w1) : Below (w.heap.size + 3) (((w.alloc o).alloc o').alloc o'') w1 := b.mono (by simp)
theorem below_box3U {w w1 : World} {o o' o'' : Obj} (b : Below (w.heap.size + 3) (((w.alloc o).alloc o').alloc o'') w1) : Below (w.heap.size + 2) ((w.alloc o).alloc o') w1 :=
  ((Below.refl _ _).alloc (by simp) _).trans (b.mono (by omega))

set_option maxHeartbeats 400000 in
theorem implApp_no (ad ad' : Addr) (n m cap cap' : Nat) (ss ls : List Int) (kd tx ky : Int) (hd : Bool) (ol : Int) (hs : Bool) (nw : Int) (w : World) (h : CellsAt w (some ad) n (bts ss)) (h' : CellsAt w (some ad') m (bts ls)) (hb : IsB ss) (hb' : IsB ls) (hn : n ≤ 1048576) (hm : m ≤ 1048576) (hcap : n ≤ cap) (hcap' : m ≤ cap') (c : Int) (h0 : Ch.walFault ss ls = c) (hc : (c != 0) = true) :
    Calls Try.prog 16 #[.agg #[.slice (some ad) n cap, .slice (some ad') m cap'], .agg #[.int .i64 kd, .int .i64 tx, .int .i64 ky, .bool hd, .int .i64 ol, .bool hs, .int .i64 nw]] w fun e w' => e = .returned (.agg #[.int .i64 c, .int .i64 0, .slice none 0 0, .slice none 0 0]) ∧ Below w.heap.size w w' := by
  have b0 : Below w.heap.size w (((w.alloc (.cells #[.slice (some ad) n cap, .slice (some ad') m cap'] 25)).alloc (.cells #[.int .i64 kd, .int .i64 tx, .int .i64 ky, .bool hd, .int .i64 ol, .bool hs, .int .i64 nw] 38)).alloc (.cells #[.int .i64 0, .int .i64 0, .slice none 0 0, .slice none 0 0] 29)) := (((Below.refl _ _).alloc (Nat.le_refl _) _).alloc (by simp) _).alloc (by simp; omega) _
  go_enter Try.func16, Try.ntmps16
  go_wp2_with fail
  refine (implWal_any _ _ n m cap cap' ss ls _ (h.below b0) (h'.below b0) hb hb' hn hm hcap hcap').mono ?_
  rw [h0]
  rintro e w1 ⟨rfl, b1⟩
  have b1A := below_boxes3 b1
  have hRw : w1.heap[w.heap.size + 2]? = some (.cells #[.int .i64 0, .int .i64 0, .slice none 0 0, .slice none 0 0] 29 (0, 0)) := (b1A.block (w.heap.size + 2) (by omega)).trans (heap_new' (by simp))
  obtain ⟨x0, x1, x2, x3⟩ := row4 hRw
  obtain ⟨f0, f1, f2, f3⟩ := frz4 hRw
  have bE := below_boxS (below_boxT (below_box3U b1A))
  go_wp2
  exact bodyPost_ret (v := .agg #[.int .i64 c, .int .i64 0, .slice none 0 0, .slice none 0 0]) (by simp [results, Try.results16, go_sem, x0, x1, x2, x3]) rfl ⟨rfl, (((bE.setCell (p := ⟨w.heap.size + 2, 0, none⟩) (by simp) _).setCell (p := ⟨w.heap.size + 2, 1, none⟩) (by simp) _).setCell (p := ⟨w.heap.size + 2, 2, none⟩) (by simp) _).setCell (p := ⟨w.heap.size + 2, 3, none⟩) (by simp) _⟩

set_option maxHeartbeats 800000 in
theorem implApp_bad (ad ad' : Addr) (n m cap cap' : Nat) (ss ls : List Int) (kd tx ky : Int) (hd : Bool) (ol : Int) (hs : Bool) (nw : Int) (w : World) (h : CellsAt w (some ad) n (bts ss)) (h' : CellsAt w (some ad') m (bts ls)) (hb : IsB ss) (hb' : IsB ls) (hn : n ≤ 1048576) (hm : m ≤ 1048576) (hcap : n ≤ cap) (hcap' : m ≤ cap') (h0 : Ch.walFault ss ls = 0) (c : Int) (h1 : Ch.Rec.fault ⟨kd, tx, ky, hd, ol, hs, nw⟩ = c) (hc : (c != 0) = true) :
    Calls Try.prog 16 #[.agg #[.slice (some ad) n cap, .slice (some ad') m cap'], .agg #[.int .i64 kd, .int .i64 tx, .int .i64 ky, .bool hd, .int .i64 ol, .bool hs, .int .i64 nw]] w fun e w' => e = .returned (.agg #[.int .i64 c, .int .i64 0, .slice none 0 0, .slice none 0 0]) ∧ Below w.heap.size w w' := by
  have b0 : Below w.heap.size w (((w.alloc (.cells #[.slice (some ad) n cap, .slice (some ad') m cap'] 25)).alloc (.cells #[.int .i64 kd, .int .i64 tx, .int .i64 ky, .bool hd, .int .i64 ol, .bool hs, .int .i64 nw] 38)).alloc (.cells #[.int .i64 0, .int .i64 0, .slice none 0 0, .slice none 0 0] 29)) := (((Below.refl _ _).alloc (Nat.le_refl _) _).alloc (by simp) _).alloc (by simp; omega) _
  have hd0 : ((0 : Int) != 0) = false := by simp
  go_enter Try.func16, Try.ntmps16
  go_wp2_with fail
  refine (implWal_any _ _ n m cap cap' ss ls _ (h.below b0) (h'.below b0) hb hb' hn hm hcap hcap').mono ?_
  rw [h0]
  rintro e w1 ⟨rfl, b1⟩
  have b1A := below_boxes3 b1
  have q : ∀ i, w1.cell? ⟨w.heap.size + 1, i, none⟩ = (#[.int .i64 kd, .int .i64 tx, .int .i64 ky, .bool hd, .int .i64 ol, .bool hs, .int .i64 nw] : Array Value)[i]? := fun i => box_at2 (below_box3U b1A) i
  have q0 := q 0
  have q1 := q 1
  have q2 := q 2
  have q3 := q 3
  have q4 := q 4
  have q5 := q 5
  have q6 := q 6
  simp at q0 q1 q2 q3 q4 q5 q6
  clear q
  go_wp2_with fail
  refine (implPackRec_no kd tx ky hd ol hs nw _ c h1 hc).mono ?_
  rintro e w2 ⟨rfl, b2⟩
  have b2A := b1A.trans (b2.mono (by have := b1A.size; simp at this; omega))
  have hRw : w2.heap[w.heap.size + 2]? = some (.cells #[.int .i64 0, .int .i64 0, .slice none 0 0, .slice none 0 0] 29 (0, 0)) := (b2A.block (w.heap.size + 2) (by omega)).trans (heap_new' (by simp))
  obtain ⟨x0, x1, x2, x3⟩ := row4 hRw
  obtain ⟨f0, f1, f2, f3⟩ := frz4 hRw
  have bE := below_boxS (below_boxT (below_box3U b2A))
  have lR := lt_of_cell x0
  go_wp2
  exact bodyPost_ret (v := .agg #[.int .i64 c, .int .i64 0, .slice none 0 0, .slice none 0 0]) (by simp [results, Try.results16, go_sem, lR, x0, x1, x2, x3]) rfl ⟨rfl, by
    repeat (first | with_reducible exact bE | with_reducible refine Below.alloc ?_ (by simp; omega) _ | with_reducible refine Below.setCell ?_ (by simp; omega) _)⟩

set_option maxHeartbeats 800000 in
theorem implApp_big (ad ad' : Addr) (n m cap cap' : Nat) (ss ls : List Int) (kd tx ky : Int) (hd : Bool) (ol : Int) (hs : Bool) (nw : Int) (w : World) (h : CellsAt w (some ad) n (bts ss)) (h' : CellsAt w (some ad') m (bts ls)) (hb : IsB ss) (hb' : IsB ls) (hn : n ≤ 1048576) (hm : m ≤ 1048576) (hcap : n ≤ cap) (hcap' : m ≤ cap') (h0 : Ch.walFault ss ls = 0) (h1 : Ch.Rec.fault ⟨kd, tx, ky, hd, ol, hs, nw⟩ = 0) (hl : 4000 < n + m + Ch.Rec.len ⟨kd, tx, ky, hd, ol, hs, nw⟩) (hl' : Ch.Rec.len ⟨kd, tx, ky, hd, ol, hs, nw⟩ ≤ 11) :
    Calls Try.prog 16 #[.agg #[.slice (some ad) n cap, .slice (some ad') m cap'], .agg #[.int .i64 kd, .int .i64 tx, .int .i64 ky, .bool hd, .int .i64 ol, .bool hs, .int .i64 nw]] w fun e w' => e = .returned (.agg #[.int .i64 2, .int .i64 0, .slice none 0 0, .slice none 0 0]) ∧ Below w.heap.size w w' := by
  have b0 : Below w.heap.size w (((w.alloc (.cells #[.slice (some ad) n cap, .slice (some ad') m cap'] 25)).alloc (.cells #[.int .i64 kd, .int .i64 tx, .int .i64 ky, .bool hd, .int .i64 ol, .bool hs, .int .i64 nw] 38)).alloc (.cells #[.int .i64 0, .int .i64 0, .slice none 0 0, .slice none 0 0] 29)) := (((Below.refl _ _).alloc (Nat.le_refl _) _).alloc (by simp) _).alloc (by simp; omega) _
  have hd0 : ((0 : Int) != 0) = false := by simp
  go_enter Try.func16, Try.ntmps16
  go_wp2_with fail
  refine (implWal_any _ _ n m cap cap' ss ls _ (h.below b0) (h'.below b0) hb hb' hn hm hcap hcap').mono ?_
  rw [h0]
  rintro e w1 ⟨rfl, b1⟩
  have b1A := below_boxes3 b1
  have p0 := box_at (below_boxT (below_box3U b1A)) 0
  have p1 := box_at (below_boxT (below_box3U b1A)) 1
  simp at p0 p1
  have q : ∀ i, w1.cell? ⟨w.heap.size + 1, i, none⟩ = (#[.int .i64 kd, .int .i64 tx, .int .i64 ky, .bool hd, .int .i64 ol, .bool hs, .int .i64 nw] : Array Value)[i]? := fun i => box_at2 (below_box3U b1A) i
  have q0 := q 0
  have q1 := q 1
  have q2 := q 2
  have q3 := q 3
  have q4 := q 4
  have q5 := q 5
  have q6 := q 6
  simp at q0 q1 q2 q3 q4 q5 q6
  clear q
  go_wp2_with fail
  refine (implPackRec_ok kd tx ky hd ol hs nw _ h1).mono ?_
  rintro e w2 ⟨g2, k2, rfl, o2, b2⟩
  have b2A := b1A.trans (b2.mono (by have := b1A.size; simp at this; omega))
  have p0' := (b2.cell (p := ⟨w.heap.size, 0, none⟩) (lt_of_cell p0)).trans p0
  have p1' := (b2.cell (p := ⟨w.heap.size, 1, none⟩) (lt_of_cell p1)).trans p1
  have hRw : w2.heap[w.heap.size + 2]? = some (.cells #[.int .i64 0, .int .i64 0, .slice none 0 0, .slice none 0 0] 29 (0, 0)) := (b2A.block (w.heap.size + 2) (by omega)).trans (heap_new' (by simp))
  obtain ⟨x0, x1, x2, x3⟩ := row4 hRw
  obtain ⟨f0, f1, f2, f3⟩ := frz4 hRw
  generalize Ch.Rec.len ⟨kd, tx, ky, hd, ol, hs, nw⟩ = len at *
  have bE := below_boxS (below_boxT (below_box3U b2A))
  have lR := lt_of_cell x0
  have lP := lt_of_cell p0'
  have hsm : IntKind.i64.wrap ((n : Int) + (m : Int)) = (n : Int) + (m : Int) := IntWalk.i64_in _ ⟨by omega, by omega⟩
  have hsm2 : IntKind.i64.wrap ((n : Int) + (m : Int) + (len : Int)) = (n : Int) + (m : Int) + (len : Int) := IntWalk.i64_in _ ⟨by omega, by omega⟩
  have hgt : (4000 : Int) < (n : Int) + (m : Int) + (len : Int) := by omega
  clear b1 b2 o2 h h' p0 p1 q0 q1 q2 q3 q4 q5 q6
  go_wp2
  exact bodyPost_ret (v := .agg #[.int .i64 2, .int .i64 0, .slice none 0 0, .slice none 0 0]) (by simp [results, Try.results16, go_sem, lR, x0, x1, x2, x3]) rfl ⟨rfl, by
    repeat (first | with_reducible exact bE | with_reducible refine Below.alloc ?_ (by simp; omega) _ | with_reducible refine Below.setCell ?_ (by simp; omega) _)⟩

end Go.Proofs.Ytommekhmdmnjlaa
