
/- ForceWal: of the program and of the model. -/
import Derived.Test.YtommekhmdmnjlaaOfW
namespace Go.Proofs.Ytommekhmdmnjlaa
open Go.RowKit

set_option maxHeartbeats 400000 in
theorem implForce_no (ad ad' : Addr) (n m cap cap' : Nat) (ss ls : List Int) (w : World) (h : CellsAt w (some ad) n (bts ss)) (h' : CellsAt w (some ad') m (bts ls)) (hb : IsB ss) (hb' : IsB ls) (hn : n ≤ 1048576) (hm : m ≤ 1048576) (hcap : n ≤ cap) (hcap' : m ≤ cap') (c : Int) (h0 : Ch.walFault ss ls = c) (hc : (c != 0) = true) :
    Calls Try.prog 15 #[.agg #[.slice (some ad) n cap, .slice (some ad') m cap']] w fun e w' => e = .returned (.agg #[.int .i64 c, .int .i64 0, .slice none 0 0, .slice none 0 0]) ∧ Below w.heap.size w w' := by
  have b0 : Below w.heap.size w ((w.alloc (.cells #[.slice (some ad) n cap, .slice (some ad') m cap'] 25)).alloc (.cells #[.int .i64 0, .int .i64 0, .slice none 0 0, .slice none 0 0] 29)) := ((Below.refl _ _).alloc (Nat.le_refl _) _).alloc (by simp) _
  go_enter Try.func15, Try.ntmps15
  go_wp2_with fail
  refine (implWal_any _ _ n m cap cap' ss ls _ (h.below b0) (h'.below b0) hb hb' hn hm hcap hcap').mono ?_
  rw [h0]
  rintro e w1 ⟨rfl, b1⟩
  have b1A := below_box2 b1
  have hRw : w1.heap[w.heap.size + 1]? = some (.cells #[.int .i64 0, .int .i64 0, .slice none 0 0, .slice none 0 0] 29 (0, 0)) := (b1A.block (w.heap.size + 1) (by omega)).trans (heap_new' (by simp))
  obtain ⟨x0, x1, x2, x3⟩ := row4 hRw
  obtain ⟨f0, f1, f2, f3⟩ := frz4 hRw
  have bE := below_boxS (below_boxT b1A)
  go_wp2
  exact bodyPost_ret (v := .agg #[.int .i64 c, .int .i64 0, .slice none 0 0, .slice none 0 0]) (by simp [results, Try.results15, go_sem, x0, x1, x2, x3]) rfl ⟨rfl, (((bE.setCell (p := ⟨w.heap.size + 1, 0, none⟩) (by simp) _).setCell (p := ⟨w.heap.size + 1, 1, none⟩) (by simp) _).setCell (p := ⟨w.heap.size + 1, 2, none⟩) (by simp) _).setCell (p := ⟨w.heap.size + 1, 3, none⟩) (by simp) _⟩

set_option maxHeartbeats 400000 in
theorem specForce_no (ad ad' : Addr) (n m cap cap' : Nat) (ss ls : List Int) (w : World) (h : CellsAt w (some ad) n (bts ss)) (h' : CellsAt w (some ad') m (bts ls)) (hb : IsB ss) (hb' : IsB ls) (hn : n ≤ 1048576) (hm : m ≤ 1048576) (hcap : n ≤ cap) (hcap' : m ≤ cap') (c : Int) (h0 : Ch.walFault ss ls = c) (hc : (c != 0) = true) :
    Calls Try.prog 55 #[.agg #[.slice (some ad) n cap, .slice (some ad') m cap']] w fun e w' => e = .returned (.agg #[.int .i64 c, .int .i64 0, .slice none 0 0, .slice none 0 0]) ∧ Below w.heap.size w w' := by
  have b0 : Below w.heap.size w ((w.alloc (.cells #[.slice (some ad) n cap, .slice (some ad') m cap'] 25)).alloc (.cells #[.int .i64 0, .int .i64 0, .slice none 0 0, .slice none 0 0] 29)) := ((Below.refl _ _).alloc (Nat.le_refl _) _).alloc (by simp) _
  go_enter Try.func55, Try.ntmps55
  go_wp2_with fail
  refine (l2Fault_any w.heap.size _ _ n m cap cap' ss ls _ (by simp) (by simp) (h.below b0) (h'.below b0) hb hb' hn hm hcap hcap').mono ?_
  rw [h0]
  rintro e w1 ⟨rfl, b1⟩
  have b1A := below_box2 b1
  have hRw : w1.heap[w.heap.size + 1]? = some (.cells #[.int .i64 0, .int .i64 0, .slice none 0 0, .slice none 0 0] 29 (0, 0)) := (b1A.block (w.heap.size + 1) (by omega)).trans (heap_new' (by simp))
  obtain ⟨x0, x1, x2, x3⟩ := row4 hRw
  obtain ⟨f0, f1, f2, f3⟩ := frz4 hRw
  have bE := below_boxS (below_boxT b1A)
  go_wp2
  exact bodyPost_ret (v := .agg #[.int .i64 c, .int .i64 0, .slice none 0 0, .slice none 0 0]) (by simp [results, Try.results55, go_sem, x0, x1, x2, x3]) rfl ⟨rfl, (((bE.setCell (p := ⟨w.heap.size + 1, 0, none⟩) (by simp) _).setCell (p := ⟨w.heap.size + 1, 1, none⟩) (by simp) _).setCell (p := ⟨w.heap.size + 1, 2, none⟩) (by simp) _).setCell (p := ⟨w.heap.size + 1, 3, none⟩) (by simp) _⟩

theorem isB_append {xs ys : List Int} (hx : IsB xs) (hy : IsB ys) : IsB (xs ++ ys) := by
  intro i
  by_cases hi : i < xs.length
  · have := hx i
    simpa [List.getD, List.getElem?_append_left hi] using this
  · have := hy (i - xs.length)
    simpa [List.getD, List.getElem?_append_right (Nat.le_of_not_lt hi)] using this
theorem owns_cap {w : World} {base : Nat} {e : TypeId} {size : Nat} {a : Option Addr} {n cap : Nat} {xs : List Value} (h : w.ownsRow base e size (.slice a n cap) n xs) : n ≤ cap := by
  rcases h.2 with ⟨hv, h0⟩ | ⟨g, cap', cur, hv, _, _, h1, _⟩
  · omega
  · simp only [Value.slice.injEq] at hv
    omega

set_option maxHeartbeats 1000000 in
theorem implForce_ok (ad ad' : Addr) (n m cap cap' : Nat) (ss ls : List Int) (w : World) (h : CellsAt w (some ad) n (bts ss)) (h' : CellsAt w (some ad') m (bts ls)) (hb : IsB ss) (hb' : IsB ls) (hn : n ≤ 1048576) (hm : m ≤ 1048576) (hcap : n ≤ cap) (hcap' : m ≤ cap') (h0 : Ch.walFault ss ls = 0) :
    Calls Try.prog 15 #[.agg #[.slice (some ad) n cap, .slice (some ad') m cap']] w fun e w' => ∃ a1 c1, e = .returned (.agg #[.int .i64 0, .int .i64 (Ch.reads (ss ++ ls)).length, .slice a1 (n + m) c1, .slice none 0 0]) ∧ w'.ownsRow w.heap.size 5 1 (.slice a1 (n + m) c1) (n + m) (bts (ss ++ ls)) ∧ Below w.heap.size w w' := by
  have b0 : Below w.heap.size w ((w.alloc (.cells #[.slice (some ad) n cap, .slice (some ad') m cap'] 25)).alloc (.cells #[.int .i64 0, .int .i64 0, .slice none 0 0, .slice none 0 0] 29)) := ((Below.refl _ _).alloc (Nat.le_refl _) _).alloc (by simp) _
  have hd0 : ((0 : Int) != 0) = false := by simp
  have hsum : n + m ≤ 4000 := by
    have e1 := h.len.out
    have e2 := h'.len.out
    unfold Ch.walFault at h0
    by_cases hbig : 4000 < ss.length + ls.length
    · rw [if_pos hbig] at h0; omega
    · omega
  go_enter Try.func15, Try.ntmps15
  go_wp2_with fail
  refine (implWal_any _ _ n m cap cap' ss ls _ (h.below b0) (h'.below b0) hb hb' hn hm hcap hcap').mono ?_
  rw [h0]
  rintro e w1 ⟨rfl, b1⟩
  have b1A := below_box2 b1
  have p0 := box_at (below_boxT b1A) 0
  have p1 := box_at (below_boxT b1A) 1
  simp at p0 p1
  have bW := below_boxS (below_boxT b1A)
  have hz1 := b1A.size
  simp at hz1
  have bL : Below w.heap.size w (w1.alloc (.cells #[.slice (some ad) n cap, .slice (some ad') m cap'] 22)) := bW.alloc bW.size _
  have cc := concat_any w1.heap.size ad ad' n m cap cap' ss ls (w1.alloc (.cells #[.slice (some ad) n cap, .slice (some ad') m cap'] 22)) (by simp) (by simp) (h.below bL) (h'.below bL) (by omega)
  go_wp2_with fail
  refine cc.mono ?_
  clear cc
  rintro e w2 ⟨a2, k2, rfl, o2, b2⟩
  have b2A : Below (w.heap.size + 2) ((w.alloc (.cells #[.slice (some ad) n cap, .slice (some ad') m cap'] 25)).alloc (.cells #[.int .i64 0, .int .i64 0, .slice none 0 0, .slice none 0 0] 29)) w2 := (b1A.alloc hz1 _).trans (b2.mono (by simp; omega))
  have hc2 := owns_bytes o2
  have hk2 := owns_cap o2
  go_wp2_with fail
  refine (counted_any a2 none (n + m) 0 k2 0 (ss ++ ls) [] _ hc2 ⟨rfl, fun h => absurd h (by simp)⟩ (isB_append hb hb') (fun i => by simp) (by omega) (by omega) hk2 (Nat.le_refl _)).mono ?_
  rintro e w3 ⟨rfl, b3⟩
  have b3A := b2A.trans (b3.mono (by have := b2A.size; simp at this; omega))
  have o3 := owns_below o2 b3
  have nilR : ((Ch.reads []).length : Int) = 0 := rfl
  rw [nilR, Int.add_zero]
  have hRw : w3.heap[w.heap.size + 1]? = some (.cells #[.int .i64 0, .int .i64 0, .slice none 0 0, .slice none 0 0] 29 (0, 0)) := (b3A.block (w.heap.size + 1) (by omega)).trans (heap_new' (by simp))
  obtain ⟨x0, x1, x2, x3⟩ := row4 hRw
  obtain ⟨f0, f1, f2, f3⟩ := frz4 hRw
  have bE := below_boxS (below_boxT b3A)
  generalize hpp : (Ch.reads (ss ++ ls)).length = p at *
  go_wp2
  refine bodyPost_ret (v := .agg #[.int .i64 0, .int .i64 p, .slice a2 (n + m) k2, .slice none 0 0]) (by simp [results, Try.results15, go_sem, x0, x1, x2, x3]) rfl ⟨a2, k2, by rw [hpp], ?_, (((bE.setCell (p := ⟨w.heap.size + 1, 0, none⟩) (by simp) _).setCell (p := ⟨w.heap.size + 1, 1, none⟩) (by simp) _).setCell (p := ⟨w.heap.size + 1, 2, none⟩) (by simp) _).setCell (p := ⟨w.heap.size + 1, 3, none⟩) (by simp) _⟩
  exact owns_base (ownsRow_setCell_below (a := ⟨w.heap.size + 1, 3, none⟩) (ownsRow_setCell_below (a := ⟨w.heap.size + 1, 2, none⟩) (ownsRow_setCell_below (a := ⟨w.heap.size + 1, 1, none⟩) (ownsRow_setCell_below (a := ⟨w.heap.size + 1, 0, none⟩) o3 (by simp; omega) _) (by simp; omega) _) (by simp; omega) _) (by simp; omega) _) (by simp; omega)
end Go.Proofs.Ytommekhmdmnjlaa
