
/- CrashWal: of the program and of the model. -/
import Derived.Test.YtommekhmdmnjlaaForceS
import Derived.Test.YtommekhmdmnjlaaRecS
namespace Go.Proofs.Ytommekhmdmnjlaa
open Go.RowKit

set_option maxHeartbeats 400000 in
theorem implCrash_no (ad ad' : Addr) (n m cap cap' : Nat) (kept : Int) (ss ls : List Int) (w : World) (h : CellsAt w (some ad) n (bts ss)) (h' : CellsAt w (some ad') m (bts ls)) (hb : IsB ss) (hb' : IsB ls) (hn : n ≤ 1048576) (hm : m ≤ 1048576) (hcap : n ≤ cap) (hcap' : m ≤ cap') (c : Int) (h0 : Ch.walFault ss ls = c) (hc : (c != 0) = true) :
    Calls Try.prog 12 #[.agg #[.slice (some ad) n cap, .slice (some ad') m cap'], .int .i64 kept] w fun e w' => e = .returned (.agg #[.int .i64 c, .int .i64 0, .slice none 0 0, .slice none 0 0]) ∧ Below w.heap.size w w' := by
  have b0 : Below w.heap.size w ((w.alloc (.cells #[.slice (some ad) n cap, .slice (some ad') m cap'] 25)).alloc (.cells #[.int .i64 0, .int .i64 0, .slice none 0 0, .slice none 0 0] 29)) := ((Below.refl _ _).alloc (Nat.le_refl _) _).alloc (by simp) _
  go_enter Try.func12, Try.ntmps12
  go_wp2_with fail
  refine (implWal_any _ _ n m cap cap' ss ls _ (h.below b0) (h'.below b0) hb hb' hn hm hcap hcap').mono ?_
  rw [h0]
  rintro e w1 ⟨rfl, b1⟩
  have b1A := below_box2 b1
  have hRw : w1.heap[w.heap.size + 1]? = some (.cells #[.int .i64 0, .int .i64 0, .slice none 0 0, .slice none 0 0] 29 (0, 0)) := (b1A.block (w.heap.size + 1) (by omega)).trans (heap_new' (by simp))
  obtain ⟨x0, x1, x2, x3⟩ := row4 hRw
  obtain ⟨f0, f1, f2, f3⟩ := frz4 hRw
  have bE := below_boxS (below_boxT b1A)
  go_wp2
  exact bodyPost_ret (v := .agg #[.int .i64 c, .int .i64 0, .slice none 0 0, .slice none 0 0]) (by simp [results, Try.results12, go_sem, x0, x1, x2, x3]) rfl ⟨rfl, ((((bE).setCell (p := ⟨w.heap.size + 1, 0, none⟩) (by simp) _).setCell (p := ⟨w.heap.size + 1, 1, none⟩) (by simp) _).setCell (p := ⟨w.heap.size + 1, 2, none⟩) (by simp) _).setCell (p := ⟨w.heap.size + 1, 3, none⟩) (by simp) _⟩

set_option maxHeartbeats 400000 in
theorem specCrash_no (ad ad' : Addr) (n m cap cap' : Nat) (kept : Int) (ss ls : List Int) (w : World) (h : CellsAt w (some ad) n (bts ss)) (h' : CellsAt w (some ad') m (bts ls)) (hb : IsB ss) (hb' : IsB ls) (hn : n ≤ 1048576) (hm : m ≤ 1048576) (hcap : n ≤ cap) (hcap' : m ≤ cap') (c : Int) (h0 : Ch.walFault ss ls = c) (hc : (c != 0) = true) :
    Calls Try.prog 13 #[.agg #[.slice (some ad) n cap, .slice (some ad') m cap'], .int .i64 kept] w fun e w' => e = .returned (.agg #[.int .i64 c, .int .i64 0, .slice none 0 0, .slice none 0 0]) ∧ Below w.heap.size w w' := by
  have b0 : Below w.heap.size w ((w.alloc (.cells #[.slice (some ad) n cap, .slice (some ad') m cap'] 25)).alloc (.cells #[.int .i64 0, .int .i64 0, .slice none 0 0, .slice none 0 0] 29)) := ((Below.refl _ _).alloc (Nat.le_refl _) _).alloc (by simp) _
  go_enter Try.func13, Try.ntmps13
  go_wp2_with fail
  refine (l2Fault_any w.heap.size _ _ n m cap cap' ss ls _ (by simp) (by simp) (h.below b0) (h'.below b0) hb hb' hn hm hcap hcap').mono ?_
  rw [h0]
  rintro e w1 ⟨rfl, b1⟩
  have b1A := below_box2 b1
  have hRw : w1.heap[w.heap.size + 1]? = some (.cells #[.int .i64 0, .int .i64 0, .slice none 0 0, .slice none 0 0] 29 (0, 0)) := (b1A.block (w.heap.size + 1) (by omega)).trans (heap_new' (by simp))
  obtain ⟨x0, x1, x2, x3⟩ := row4 hRw
  obtain ⟨f0, f1, f2, f3⟩ := frz4 hRw
  have bE := below_boxS (below_boxT b1A)
  go_wp2
  exact bodyPost_ret (v := .agg #[.int .i64 c, .int .i64 0, .slice none 0 0, .slice none 0 0]) (by simp [results, Try.results13, go_sem, x0, x1, x2, x3]) rfl ⟨rfl, ((((bE).setCell (p := ⟨w.heap.size + 1, 0, none⟩) (by simp) _).setCell (p := ⟨w.heap.size + 1, 1, none⟩) (by simp) _).setCell (p := ⟨w.heap.size + 1, 2, none⟩) (by simp) _).setCell (p := ⟨w.heap.size + 1, 3, none⟩) (by simp) _⟩

set_option maxHeartbeats 800000 in
theorem implCrash_range (ad ad' : Addr) (n m cap cap' : Nat) (kept : Int) (ss ls : List Int) (w : World) (h : CellsAt w (some ad) n (bts ss)) (h' : CellsAt w (some ad') m (bts ls)) (hb : IsB ss) (hb' : IsB ls) (hn : n ≤ 1048576) (hm : m ≤ 1048576) (hcap : n ≤ cap) (hcap' : m ≤ cap') (h0 : Ch.walFault ss ls = 0) (hk : kept < 0 ∨ (m : Int) < kept) :
    Calls Try.prog 12 #[.agg #[.slice (some ad) n cap, .slice (some ad') m cap'], .int .i64 kept] w fun e w' => e = .returned (.agg #[.int .i64 3, .int .i64 0, .slice none 0 0, .slice none 0 0]) ∧ Below w.heap.size w w' := by
  have b0 : Below w.heap.size w ((w.alloc (.cells #[.slice (some ad) n cap, .slice (some ad') m cap'] 25)).alloc (.cells #[.int .i64 0, .int .i64 0, .slice none 0 0, .slice none 0 0] 29)) := ((Below.refl _ _).alloc (Nat.le_refl _) _).alloc (by simp) _
  have hd0 : ((0 : Int) != 0) = false := by simp
  by_cases hk0 : kept < 0
  · clear hk
    go_enter Try.func12, Try.ntmps12
    go_wp2_with fail
    refine (implWal_any _ _ n m cap cap' ss ls _ (h.below b0) (h'.below b0) hb hb' hn hm hcap hcap').mono ?_
    rw [h0]
    rintro e w1 ⟨rfl, b1⟩
    have b1A := below_box2 b1
    have p0 := box_at (below_boxT b1A) 0
    have p1 := box_at (below_boxT b1A) 1
    simp at p0 p1
    have hRw : w1.heap[w.heap.size + 1]? = some (.cells #[.int .i64 0, .int .i64 0, .slice none 0 0, .slice none 0 0] 29 (0, 0)) := (b1A.block (w.heap.size + 1) (by omega)).trans (heap_new' (by simp))
    obtain ⟨x0, x1, x2, x3⟩ := row4 hRw
    obtain ⟨f0, f1, f2, f3⟩ := frz4 hRw
    have bE := below_boxS (below_boxT b1A)
    go_wp2
    exact bodyPost_ret (v := .agg #[.int .i64 3, .int .i64 0, .slice none 0 0, .slice none 0 0]) (by simp [results, Try.results12, go_sem, x0, x1, x2, x3]) rfl ⟨rfl, ((((bE).setCell (p := ⟨w.heap.size + 1, 0, none⟩) (by simp) _).setCell (p := ⟨w.heap.size + 1, 1, none⟩) (by simp) _).setCell (p := ⟨w.heap.size + 1, 2, none⟩) (by simp) _).setCell (p := ⟨w.heap.size + 1, 3, none⟩) (by simp) _⟩
  · have hk2 : (m : Int) < kept := by omega
    clear hk
    go_enter Try.func12, Try.ntmps12
    go_wp2_with fail
    refine (implWal_any _ _ n m cap cap' ss ls _ (h.below b0) (h'.below b0) hb hb' hn hm hcap hcap').mono ?_
    rw [h0]
    rintro e w1 ⟨rfl, b1⟩
    have b1A := below_box2 b1
    have p0 := box_at (below_boxT b1A) 0
    have p1 := box_at (below_boxT b1A) 1
    simp at p0 p1
    have hRw : w1.heap[w.heap.size + 1]? = some (.cells #[.int .i64 0, .int .i64 0, .slice none 0 0, .slice none 0 0] 29 (0, 0)) := (b1A.block (w.heap.size + 1) (by omega)).trans (heap_new' (by simp))
    obtain ⟨x0, x1, x2, x3⟩ := row4 hRw
    obtain ⟨f0, f1, f2, f3⟩ := frz4 hRw
    have bE := below_boxS (below_boxT b1A)
    go_wp2
    exact bodyPost_ret (v := .agg #[.int .i64 3, .int .i64 0, .slice none 0 0, .slice none 0 0]) (by simp [results, Try.results12, go_sem, x0, x1, x2, x3]) rfl ⟨rfl, ((((bE).setCell (p := ⟨w.heap.size + 1, 0, none⟩) (by simp) _).setCell (p := ⟨w.heap.size + 1, 1, none⟩) (by simp) _).setCell (p := ⟨w.heap.size + 1, 2, none⟩) (by simp) _).setCell (p := ⟨w.heap.size + 1, 3, none⟩) (by simp) _⟩

set_option maxHeartbeats 400000 in
theorem specCrash_range (ad ad' : Addr) (n m cap cap' : Nat) (kept : Int) (ss ls : List Int) (w : World) (h : CellsAt w (some ad) n (bts ss)) (h' : CellsAt w (some ad') m (bts ls)) (hb : IsB ss) (hb' : IsB ls) (hn : n ≤ 1048576) (hm : m ≤ 1048576) (hcap : n ≤ cap) (hcap' : m ≤ cap') (h0 : Ch.walFault ss ls = 0) (hk : kept < 0 ∨ (m : Int) < kept) :
    Calls Try.prog 13 #[.agg #[.slice (some ad) n cap, .slice (some ad') m cap'], .int .i64 kept] w fun e w' => e = .returned (.agg #[.int .i64 3, .int .i64 0, .slice none 0 0, .slice none 0 0]) ∧ Below w.heap.size w w' := by
  have b0 : Below w.heap.size w ((w.alloc (.cells #[.slice (some ad) n cap, .slice (some ad') m cap'] 25)).alloc (.cells #[.int .i64 0, .int .i64 0, .slice none 0 0, .slice none 0 0] 29)) := ((Below.refl _ _).alloc (Nat.le_refl _) _).alloc (by simp) _
  have hd0 : ((0 : Int) != 0) = false := by simp
  have hin : Ch.inB kept 0 (m : Int) = false := by
    unfold Ch.inB
    rcases hk with hk | hk
    · have : decide ((0 : Int) ≤ kept) = false := by simp; omega
      simp [this]
    · have : decide (kept ≤ (m : Int)) = false := by simp; omega
      simp [this]
  go_enter Try.func13, Try.ntmps13
  go_wp2_with fail
  refine (l2Fault_any w.heap.size _ _ n m cap cap' ss ls _ (by simp) (by simp) (h.below b0) (h'.below b0) hb hb' hn hm hcap hcap').mono ?_
  rw [h0]
  rintro e w1 ⟨rfl, b1⟩
  have b1A := below_box2 b1
  have p0 := box_at (below_boxT b1A) 0
  have p1 := box_at (below_boxT b1A) 1
  simp at p0 p1
  have hRw : w1.heap[w.heap.size + 1]? = some (.cells #[.int .i64 0, .int .i64 0, .slice none 0 0, .slice none 0 0] 29 (0, 0)) := (b1A.block (w.heap.size + 1) (by omega)).trans (heap_new' (by simp))
  obtain ⟨x0, x1, x2, x3⟩ := row4 hRw
  obtain ⟨f0, f1, f2, f3⟩ := frz4 hRw
  have bE := below_boxS (below_boxT b1A)
  go_wp2_with fail
  refine (in_any kept 0 (m : Int) _).mono ?_
  rintro e w2 ⟨rfl, rfl⟩
  rw [hin]
  go_wp2
  exact bodyPost_ret (v := .agg #[.int .i64 3, .int .i64 0, .slice none 0 0, .slice none 0 0]) (by simp [results, Try.results13, go_sem, x0, x1, x2, x3]) rfl ⟨rfl, ((((bE).setCell (p := ⟨w.heap.size + 1, 0, none⟩) (by simp) _).setCell (p := ⟨w.heap.size + 1, 1, none⟩) (by simp) _).setCell (p := ⟨w.heap.size + 1, 2, none⟩) (by simp) _).setCell (p := ⟨w.heap.size + 1, 3, none⟩) (by simp) _⟩

theorem cells_take {w : World} {a : Option Addr} {n k : Nat} {zs : List Int} (h : CellsAt w a n (bts zs)) (hk : k ≤ n) : CellsAt w a k (bts (zs.take k)) := by
  have hl := h.len.out
  refine ⟨by simp [bts]; omega, fun hp => ?_⟩
  obtain ⟨b, off, ha, hc⟩ := h.2 (by omega)
  refine ⟨b, off, ha, fun i hi => ?_⟩
  rw [hc i (by omega)]
  simp [bts, hi]
theorem clone_nil (w : World) : Calls Try.prog 37 #[.slice none 0 0] w fun e w' => e = .returned (.slice none 0 0) ∧ w' = w := by
  have hnil := fun W => Lib.run_eql_slice_nil (P := Try.prog) W 22 5 none 0 0 0 0 Try.underlying22
  simp only [Option.isNone_none] at hnil
  go_enter Try.func37, Try.ntmps37
  go_wp2
  go_ret
  exact ⟨rfl, rfl⟩
theorem clone_opt (a : Option Addr) (n cap : Nat) (zs : List Int) (w : World) (h : CellsAt w a n (bts zs)) (hn : n ≤ 1048576) (ha : a = none → n = 0 ∧ cap = 0) :
    Calls Try.prog 37 #[.slice a n cap] w fun e w' => ∃ a' c', e = .returned (.slice a' n c') ∧ w'.ownsRow w.heap.size 5 1 (.slice a' n c') n (bts zs) ∧ Below w.heap.size w w' := by
  cases a with
  | none =>
    obtain ⟨rfl, rfl⟩ := ha rfl
    refine (clone_nil w).mono ?_
    rintro e w' ⟨rfl, rfl⟩
    have : zs = [] := by have := h.len.out; exact List.length_eq_zero_iff.1 this.symm
    subst this
    exact ⟨none, 0, rfl, World.ownsRow_nil _ _ _ _, Below.refl _ _⟩
  | some ad => exact clone_any ad n cap zs w h hn

set_option linter.unusedSimpArgs false in
set_option maxHeartbeats 4000000 in
theorem implCrash_ok (ad ad' : Addr) (n m cap cap' : Nat) (k : Nat) (ss ls : List Int) (w : World) (h : CellsAt w (some ad) n (bts ss)) (h' : CellsAt w (some ad') m (bts ls)) (hb : IsB ss) (hb' : IsB ls) (hn : n ≤ 1048576) (hm : m ≤ 1048576) (hcap : n ≤ cap) (hcap' : m ≤ cap') (h0 : Ch.walFault ss ls = 0) (hk : k ≤ m) (zs : List Int) (hzs : zs = ss ++ ls.take k) :
    Calls Try.prog 12 #[.agg #[.slice (some ad) n cap, .slice (some ad') m cap'], .int .i64 (k : Int)] w fun e w' => ∃ a1 c1, e = .returned (.agg #[.int .i64 0, .int .i64 (Ch.reads (zs.take (Ch.used zs))).length, .slice a1 (Ch.used zs) c1, .slice none 0 0]) ∧ w'.ownsRow w.heap.size 5 1 (.slice a1 (Ch.used zs) c1) (Ch.used zs) (bts (zs.take (Ch.used zs))) ∧ Below w.heap.size w w' := by
  have b0 : Below w.heap.size w ((w.alloc (.cells #[.slice (some ad) n cap, .slice (some ad') m cap'] 25)).alloc (.cells #[.int .i64 0, .int .i64 0, .slice none 0 0, .slice none 0 0] 29)) := ((Below.refl _ _).alloc (Nat.le_refl _) _).alloc (by simp) _
  have hd0 : ((0 : Int) != 0) = false := by simp
  have hsum : n + m ≤ 4000 := by
    have e1 := h.len.out
    have e2 := h'.len.out
    unfold Ch.walFault at h0
    by_cases hbig : 4000 < ss.length + ls.length
    · rw [if_pos hbig] at h0; omega
    · omega
  have hzl : zs.length = n + k := by rw [hzs]; have e1 := h.len.out; have e2 := h'.len.out; simp; omega
  have hul := Ch.used_le zs
  have hbz : IsB zs := by rw [hzs]; exact isB_append hb (isB_take hb' k)
  have hrd : Ch.rd zs = (0, Ch.used zs, Ch.reads zs) := by unfold Ch.rd; rw [if_neg (by omega)]
  have hk1 : ¬ (k : Int) < 0 := by omega
  have hk2 : ¬ (m : Int) < (k : Int) := by omega
  have hk3 : k ≤ cap' := by omega
  go_enter Try.func12, Try.ntmps12
  go_wp2_with fail
  refine (implWal_any _ _ n m cap cap' ss ls _ (h.below b0) (h'.below b0) hb hb' hn hm hcap hcap').mono ?_
  rw [h0]
  rintro e w1 ⟨rfl, b1⟩
  have b1A := below_box2 b1
  have p0 := box_at (below_boxT b1A) 0
  have p1 := box_at (below_boxT b1A) 1
  simp at p0 p1
  have bW := below_boxS (below_boxT b1A)
  have hz1 := b1A.size
  simp at hz1
  clear b1
  go_upto_region 6 with fail
  have HS : Hid (∀ W', Below (w.heap.size + 2) ((w.alloc (.cells #[.slice (some ad) n cap, .slice (some ad') m cap'] 25)).alloc (.cells #[.int .i64 0, .int .i64 0, .slice none 0 0, .slice none 0 0] 29)) W' → W'.cell? ⟨w.heap.size, 0, none⟩ = some (.slice (some ad) n cap) ∧ W'.cell? ⟨w.heap.size, 1, none⟩ = some (.slice (some ad') m cap') ∧ Below (w.heap.size + 2) ((w.alloc (.cells #[.slice (some ad) n cap, .slice (some ad') m cap'] 25)).alloc (.cells #[.int .i64 0, .int .i64 0, .slice none 0 0, .slice none 0 0] 29)) W') := fun W' hW => by
    have q0 := box_at (below_boxT hW) 0
    have q1 := box_at (below_boxT hW) 1
    simp at q0 q1
    exact ⟨q0, q1, hW⟩
  refine wp_region_noPanic ?_
  refine wp_region_held_drew (S := fun W' => W'.cell? ⟨w.heap.size, 0, none⟩ = some (.slice (some ad) n cap) ∧ W'.cell? ⟨w.heap.size, 1, none⟩ = some (.slice (some ad') m cap') ∧ Below (w.heap.size + 2) ((w.alloc (.cells #[.slice (some ad) n cap, .slice (some ad') m cap'] 25)).alloc (.cells #[.int .i64 0, .int .i64 0, .slice none 0 0, .slice none 0 0] 29)) W') (by kernel_rfl) (HS.out _ b1A.drew) (fun hH => ?_)
  have bq := b1A.drew
  generalize w1.drew = wd at *
  refine hTake (i := 0) (v := ?_) rfl (by kernel_rfl) (by kernel_rfl) (by kernel_rfl) (by rfl) ?_ hH ?_
  rotate_left
  · intro W hW; (try dsimp only at hW); go_simp <;> with_reducible rfl
  simp only [Act.put, List.setIfInBounds_toArray, List.set_cons_zero, List.set_cons_succ]
  refine hTake (i := 1) (v := ?_) rfl (by kernel_rfl) (by kernel_rfl) (by kernel_rfl) (by rfl) ?_ hH ?_
  rotate_left
  · intro W hW; (try dsimp only at hW); go_simp <;> with_reducible rfl
  simp only [Act.put, List.setIfInBounds_toArray, List.set_cons_zero, List.set_cons_succ]
  refine hTake (i := 2) (v := ?_) rfl (by kernel_rfl) (by kernel_rfl) (by kernel_rfl) (by rfl) ?_ hH ?_
  rotate_left
  · intro W hW; (try dsimp only at hW); go_simp <;> with_reducible rfl
  simp only [Act.put, List.setIfInBounds_toArray, List.set_cons_zero, List.set_cons_succ]
  refine hTake (i := 3) (v := ?_) rfl (by kernel_rfl) (by kernel_rfl) (by kernel_rfl) (by rfl) ?_ hH ?_
  rotate_left
  · intro W hW; (try dsimp only at hW); go_simp <;> with_reducible rfl
  simp only [Act.put, List.setIfInBounds_toArray, List.set_cons_zero, List.set_cons_succ]
  refine hTake (i := 4) (v := ?_) rfl (by kernel_rfl) (by kernel_rfl) (by kernel_rfl) (by rfl) ?_ hH ?_
  rotate_left
  · intro W hW; (try dsimp only at hW); go_simp <;> with_reducible rfl
  simp only [Act.put, List.setIfInBounds_toArray, List.set_cons_zero, List.set_cons_succ]
  refine hTake (i := 5) (v := ?_) rfl (by kernel_rfl) (by kernel_rfl) (by kernel_rfl) (by rfl) ?_ hH ?_
  rotate_left
  · intro W hW; (try dsimp only at hW); go_simp <;> with_reducible rfl
  simp only [Act.put, List.setIfInBounds_toArray, List.set_cons_zero, List.set_cons_succ]
  refine wpAnyH_ready (rs := [6]) (by kernel_rfl) (by simp) ?_
  refine AllReadyH.cons rfl (fun K hK => ?_) AllReadyH.nil
  go_simp
  refine hK.out _ _ ?_ (fun hH => ?_)
  · exact HS.out _ (bq.alloc (by have := bq.size; simpa using this) _)
  clear hK K
  have hzd := bq.size
  simp at hzd
  have bL : Below w.heap.size w (wd.alloc (.cells #[.slice (some ad) n cap, .slice (some ad') k cap'] 22)) := (below_boxS (below_boxT bq)).alloc (below_boxS (below_boxT bq)).size _
  have cc := concat_any wd.heap.size ad ad' n k cap cap' ss (ls.take k) (wd.alloc (.cells #[.slice (some ad) n cap, .slice (some ad') k cap'] 22)) (by simp) (by simp) (h.below bL) (cells_take (h'.below bL) hk) (by omega)
  rw [← hzs] at cc
  refine wpAnyH_ready (rs := [7]) (by kernel_rfl) (by simp) ?_
  refine AllReadyH.cons rfl (fun K hK => ?_) AllReadyH.nil
  go_simp
  refine cc.mono ?_
  clear cc
  rintro e w2 ⟨a2, k2, rfl, o2, b2⟩
  have b2A := (bq.alloc (by simpa using hzd) _).trans (b2.mono (by simp; omega))
  go_wp2_with fail
  refine hK.out _ _ ?_ (fun hH => ?_)
  · exact HS.out _ b2A
  clear hK K
  refine hTake (i := 8) (v := ?_) rfl (by kernel_rfl) (by kernel_rfl) (by kernel_rfl) (by rfl) ?_ hH ?_
  rotate_left
  · intro W hW; (try dsimp only at hW); go_simp <;> with_reducible rfl
  simp only [Act.put, List.setIfInBounds_toArray, List.set_cons_zero, List.set_cons_succ]
  refine wpAnyH_done (by kernel_rfl) ?_ _
  refine NoPanic.normal ?_
  clear hH HS
  have z2 := b2A.size
  simp at z2
  have hc2 := owns_bytes o2
  have hcap2 := owns_cap o2
  have hnil : a2 = none → (0 = k2 ∧ n + k = 0) := by
    intro ha
    subst ha
    rcases o2.2 with ⟨hv, h00⟩ | ⟨g, cp, cur, hv, _⟩
    · simp at hv; omega
    · simp at hv
  go_wp2_with fail
  refine (implRead_any a2 (n + k) k2 zs _ hc2 hbz (by omega) hcap2).mono ?_
  rw [hrd]
  rintro e w3 ⟨a3, m3, k3, rfl, _, _, b3⟩
  have b3A := b2A.trans (b3.mono z2)
  have o3 := owns_below o2 b3
  have z3 := b3A.size
  simp at z3
  generalize hu : Ch.used zs = u at *
  have hfd : ∀ W, (Instr.field 33 (.agg #[.int .i64 0, .int .i64 (u : Int), .slice a3 m3 k3]) 1).run Try.prog W = .ok (.int .i64 (u : Int)) W := fun _ => by kernel_rfl
  have hu1 : (0 : Int) ≤ (u : Int) ∧ (u : Int) ≤ (k2 : Int) := by omega
  have hu2 : u ≤ k2 := by omega
  go_wp2_with fail
  refine (clone_opt a2 u k2 (zs.take u) _ (cells_take (owns_bytes o3) (by omega)) (by omega) (fun ha => by have := hnil ha; omega)).mono ?_
  rintro e w4 ⟨a4, k4, rfl, o4, b4⟩
  have b4A := b3A.trans (b4.mono z3)
  have z4 := b4A.size
  simp at z4
  go_wp2_with fail
  refine (counted_any a4 none u 0 k4 0 (zs.take u) [] _ (owns_bytes o4) ⟨rfl, fun h => absurd h (by simp)⟩ (isB_take hbz u) (fun i => by simp) (by omega) (by omega) (owns_cap o4) (Nat.le_refl _)).mono ?_
  rintro e w5 ⟨rfl, b5⟩
  have b5A := b4A.trans (b5.mono z4)
  have o5 := owns_below o4 b5
  have nilR : ((Ch.reads []).length : Int) = 0 := rfl
  rw [nilR, Int.add_zero]
  have hRw : w5.heap[w.heap.size + 1]? = some (.cells #[.int .i64 0, .int .i64 0, .slice none 0 0, .slice none 0 0] 29 (0, 0)) := (b5A.block (w.heap.size + 1) (by omega)).trans (heap_new' (by simp))
  obtain ⟨x0, x1, x2, x3⟩ := row4 hRw
  obtain ⟨f0, f1, f2, f3⟩ := frz4 hRw
  have bE := below_boxS (below_boxT b5A)
  generalize hpp : (Ch.reads (zs.take u)).length = p at *
  go_wp2
  refine bodyPost_ret (v := .agg #[.int .i64 0, .int .i64 p, .slice a4 u k4, .slice none 0 0]) (by simp [results, Try.results12, go_sem, x0, x1, x2, x3]) rfl ⟨a4, k4, by rw [hu, hpp], ?_, ((((bE).setCell (p := ⟨w.heap.size + 1, 0, none⟩) (by simp) _).setCell (p := ⟨w.heap.size + 1, 1, none⟩) (by simp) _).setCell (p := ⟨w.heap.size + 1, 2, none⟩) (by simp) _).setCell (p := ⟨w.heap.size + 1, 3, none⟩) (by simp) _⟩
  rw [hu]
  exact owns_base (ownsRow_setCell_below (a := ⟨w.heap.size + 1, 3, none⟩) (ownsRow_setCell_below (a := ⟨w.heap.size + 1, 2, none⟩) (ownsRow_setCell_below (a := ⟨w.heap.size + 1, 1, none⟩) (ownsRow_setCell_below (a := ⟨w.heap.size + 1, 0, none⟩) o5 (by simp; omega) _) (by simp; omega) _) (by simp; omega) _) (by simp; omega) _) (by first | omega | (simp; omega))

set_option linter.unusedSimpArgs false in
set_option maxHeartbeats 4000000 in
theorem specCrash_ok (ad ad' : Addr) (n m cap cap' : Nat) (k : Nat) (ss ls : List Int) (w : World) (h : CellsAt w (some ad) n (bts ss)) (h' : CellsAt w (some ad') m (bts ls)) (hb : IsB ss) (hb' : IsB ls) (hn : n ≤ 1048576) (hm : m ≤ 1048576) (hcap : n ≤ cap) (hcap' : m ≤ cap') (h0 : Ch.walFault ss ls = 0) (hk : k ≤ m) (zs : List Int) (hzs : zs = ss ++ ls.take k) :
    Calls Try.prog 13 #[.agg #[.slice (some ad) n cap, .slice (some ad') m cap'], .int .i64 (k : Int)] w fun e w' => ∃ a1 c1 a2 c2, e = .returned (.agg #[.int .i64 0, .int .i64 (Ch.reads (zs.take (Ch.used zs))).length, .slice a1 (Ch.used zs) c1, .slice a2 0 c2]) ∧ w'.ownsRow w.heap.size 5 1 (.slice a1 (Ch.used zs) c1) (Ch.used zs) (bts (zs.take (Ch.used zs))) ∧ Below w.heap.size w w' := by
  have b0 : Below w.heap.size w ((w.alloc (.cells #[.slice (some ad) n cap, .slice (some ad') m cap'] 25)).alloc (.cells #[.int .i64 0, .int .i64 0, .slice none 0 0, .slice none 0 0] 29)) := ((Below.refl _ _).alloc (Nat.le_refl _) _).alloc (by simp) _
  have hd0 : ((0 : Int) != 0) = false := by simp
  have hsum : n + m ≤ 4000 := by
    have e1 := h.len.out
    have e2 := h'.len.out
    unfold Ch.walFault at h0
    by_cases hbig : 4000 < ss.length + ls.length
    · rw [if_pos hbig] at h0; omega
    · omega
  have hzl : zs.length = n + k := by rw [hzs]; have e1 := h.len.out; have e2 := h'.len.out; simp; omega
  have hul := Ch.used_le zs
  have hbz : IsB zs := by rw [hzs]; exact isB_append hb (isB_take hb' k)
  have hk3 : k ≤ cap' := by omega
  have hin : Ch.inB (k : Int) 0 (m : Int) = true := by
    unfold Ch.inB
    simp
    omega
  go_enter Try.func13, Try.ntmps13
  go_wp2_with fail
  refine (l2Fault_any w.heap.size _ _ n m cap cap' ss ls _ (by simp) (by simp) (h.below b0) (h'.below b0) hb hb' hn hm hcap hcap').mono ?_
  rw [h0]
  rintro e w1 ⟨rfl, b1⟩
  have b1A := below_box2 b1
  have p0 := box_at (below_boxT b1A) 0
  have p1 := box_at (below_boxT b1A) 1
  simp at p0 p1
  clear b1
  go_wp2_with fail
  refine (in_any (k : Int) 0 (m : Int) _).mono ?_
  rintro e w1' ⟨rfl, rfl⟩
  rw [hin]
  go_upto_region 6 with fail
  have HS : Hid (∀ W', Below (w.heap.size + 2) ((w.alloc (.cells #[.slice (some ad) n cap, .slice (some ad') m cap'] 25)).alloc (.cells #[.int .i64 0, .int .i64 0, .slice none 0 0, .slice none 0 0] 29)) W' → W'.cell? ⟨w.heap.size, 0, none⟩ = some (.slice (some ad) n cap) ∧ W'.cell? ⟨w.heap.size, 1, none⟩ = some (.slice (some ad') m cap') ∧ Below (w.heap.size + 2) ((w.alloc (.cells #[.slice (some ad) n cap, .slice (some ad') m cap'] 25)).alloc (.cells #[.int .i64 0, .int .i64 0, .slice none 0 0, .slice none 0 0] 29)) W') := fun W' hW => by
    have q0 := box_at (below_boxT hW) 0
    have q1 := box_at (below_boxT hW) 1
    simp at q0 q1
    exact ⟨q0, q1, hW⟩
  refine wp_region_noPanic ?_
  refine wp_region_held_drew (S := fun W' => W'.cell? ⟨w.heap.size, 0, none⟩ = some (.slice (some ad) n cap) ∧ W'.cell? ⟨w.heap.size, 1, none⟩ = some (.slice (some ad') m cap') ∧ Below (w.heap.size + 2) ((w.alloc (.cells #[.slice (some ad) n cap, .slice (some ad') m cap'] 25)).alloc (.cells #[.int .i64 0, .int .i64 0, .slice none 0 0, .slice none 0 0] 29)) W') (by kernel_rfl) (HS.out _ b1A.drew) (fun hH => ?_)
  have bq := b1A.drew
  generalize w1'.drew = wd at *
  refine hTake (i := 1) (v := ?_) rfl (by kernel_rfl) (by kernel_rfl) (by kernel_rfl) (by rfl) ?_ hH ?_
  rotate_left
  · intro W hW; (try dsimp only at hW); go_simp <;> with_reducible rfl
  simp only [Act.put, List.setIfInBounds_toArray, List.set_cons_zero, List.set_cons_succ]
  refine hTake (i := 2) (v := ?_) rfl (by kernel_rfl) (by kernel_rfl) (by kernel_rfl) (by rfl) ?_ hH ?_
  rotate_left
  · intro W hW; (try dsimp only at hW); go_simp <;> with_reducible rfl
  simp only [Act.put, List.setIfInBounds_toArray, List.set_cons_zero, List.set_cons_succ]
  refine hTake (i := 4) (v := ?_) rfl (by kernel_rfl) (by kernel_rfl) (by kernel_rfl) (by rfl) ?_ hH ?_
  rotate_left
  · intro W hW; (try dsimp only at hW); go_simp <;> with_reducible rfl
  simp only [Act.put, List.setIfInBounds_toArray, List.set_cons_zero, List.set_cons_succ]
  refine hTake (i := 5) (v := ?_) rfl (by kernel_rfl) (by kernel_rfl) (by kernel_rfl) (by rfl) ?_ hH ?_
  rotate_left
  · intro W hW; (try dsimp only at hW); go_simp <;> with_reducible rfl
  simp only [Act.put, List.setIfInBounds_toArray, List.set_cons_zero, List.set_cons_succ]
  refine hTake (i := 6) (v := ?_) rfl (by kernel_rfl) (by kernel_rfl) (by kernel_rfl) (by rfl) ?_ hH ?_
  rotate_left
  · intro W hW; (try dsimp only at hW); go_simp <;> with_reducible rfl
  simp only [Act.put, List.setIfInBounds_toArray, List.set_cons_zero, List.set_cons_succ]
  refine hTake (i := 7) (v := ?_) rfl (by kernel_rfl) (by kernel_rfl) (by kernel_rfl) (by rfl) ?_ hH ?_
  rotate_left
  · intro W hW; (try dsimp only at hW); go_simp <;> with_reducible rfl
  simp only [Act.put, List.setIfInBounds_toArray, List.set_cons_zero, List.set_cons_succ]
  have hzd := bq.size
  simp at hzd
  have bqa : Below (w.heap.size + 2) ((w.alloc (.cells #[.slice (some ad) n cap, .slice (some ad') m cap'] 25)).alloc (.cells #[.int .i64 0, .int .i64 0, .slice none 0 0, .slice none 0 0] 29)) (wd.alloc (.cells #[] 5)) := bq.alloc (by simpa using hzd) _
  have eo := empty_own wd (w.heap.size + 2) (by simpa using hzd)
  refine wpAnyH_ready (rs := [0]) (by kernel_rfl) (by simp) ?_
  refine AllReadyH.cons rfl (fun K hK => ?_) AllReadyH.nil
  go_simp
  refine hK.out _ _ ?_ (fun hH => ?_)
  · exact HS.out _ bqa
  clear hK K
  refine wpAnyH_ready (rs := [3]) (by kernel_rfl) (by simp) ?_
  refine AllReadyH.cons rfl (fun K hK => ?_) AllReadyH.nil
  refine step_appS (.tmp 21) (.tmp 23) (w.heap.size + 2) 0 [] n ss (by omega) rfl rfl ⟨_, _, rfl, eo⟩ ⟨_, _, rfl, h.below (below_boxS (below_boxT bqa))⟩ (by simp; omega) ?_
  intro g2 k2 w2 o2 bb2
  have b2A := bqa.trans bb2
  rw [Nat.zero_add] at o2 ⊢
  rw [List.nil_append] at o2
  have z2 := b2A.size
  simp at z2
  refine hK.out _ _ ?_ (fun hH => ?_)
  · exact HS.out _ b2A
  clear hK K
  simp only [Act.put, List.setIfInBounds_toArray, List.set_cons_zero, List.set_cons_succ]
  refine wpAnyH_ready (rs := [8]) (by kernel_rfl) (by simp) ?_
  refine AllReadyH.cons rfl (fun K hK => ?_) AllReadyH.nil
  refine step_appS (.tmp 24) (.tmp 28) (w.heap.size + 2) n (bts ss) k (ls.take k) (by omega) rfl rfl ⟨_, _, rfl, o2⟩ ⟨_, _, rfl, cells_take (h'.below (below_boxS (below_boxT b2A))) hk⟩ z2 ?_
  intro g3 k3 w3 o3 bb3
  have b3A := b2A.trans bb3
  rw [← bts_append, ← hzs] at o3
  have z3 := b3A.size
  simp at z3
  have hk3' := owns_cap o3
  refine hK.out _ _ ?_ (fun hH => ?_)
  · exact HS.out _ b3A
  clear hK K
  simp only [Act.put, List.setIfInBounds_toArray, List.set_cons_zero, List.set_cons_succ]
  refine hTake (i := 9) (v := ?_) rfl (by kernel_rfl) (by kernel_rfl) (by kernel_rfl) (by rfl) ?_ hH ?_
  rotate_left
  · intro W hW; (try dsimp only at hW); go_simp <;> with_reducible rfl
  simp only [Act.put, List.setIfInBounds_toArray, List.set_cons_zero, List.set_cons_succ]
  refine wpAnyH_done (by kernel_rfl) ?_ _
  refine NoPanic.normal ?_
  clear hH HS
  go_wp2_with fail
  refine (l2Read_any _ (n + k) k3 zs _ (owns_bytes o3) hbz (by omega) hk3').mono ?_
  rintro e w4 ⟨g4, c4, rfl, _, b4⟩
  have b4A := b3A.trans (b4.mono z3)
  have o4 := owns_below o3 b4
  have z4 := b4A.size
  simp at z4
  generalize hu : Ch.used zs = u at *
  generalize (Ch.reads zs).length = q at *
  have hu1 : (0 : Int) ≤ (u : Int) ∧ (u : Int) ≤ (k3 : Int) := by omega
  have hu2 : u ≤ k3 := by omega
  go_wp2_with fail
  refine (l2Of_nil ⟨g3, 0, none⟩ u k3 (zs.take u) _ (cells_take (owns_bytes o4) (by omega)) (isB_take hbz u) (by omega) hu2).mono ?_
  rintro e w5 ⟨a5, k5, a6, k6, rfl, o5, b5⟩
  have b5A := b4A.trans (b5.mono z4)
  have hRw : w5.heap[w.heap.size + 1]? = some (.cells #[.int .i64 0, .int .i64 0, .slice none 0 0, .slice none 0 0] 29 (0, 0)) := (b5A.block (w.heap.size + 1) (by omega)).trans (heap_new' (by simp))
  obtain ⟨x0, x1, x2, x3⟩ := row4 hRw
  obtain ⟨f0, f1, f2, f3⟩ := frz4 hRw
  have bE := below_boxS (below_boxT b5A)
  generalize hpp : (Ch.reads (zs.take u)).length = p at *
  go_wp2
  refine bodyPost_ret (v := .agg #[.int .i64 0, .int .i64 p, .slice a5 u k5, .slice a6 0 k6]) (by simp [results, Try.results13, go_sem, x0, x1, x2, x3]) rfl ⟨a5, k5, a6, k6, by rw [hu, hpp], ?_, ((((bE).setCell (p := ⟨w.heap.size + 1, 0, none⟩) (by simp) _).setCell (p := ⟨w.heap.size + 1, 1, none⟩) (by simp) _).setCell (p := ⟨w.heap.size + 1, 2, none⟩) (by simp) _).setCell (p := ⟨w.heap.size + 1, 3, none⟩) (by simp) _⟩
  rw [hu]
  exact owns_base (ownsRow_setCell_below (a := ⟨w.heap.size + 1, 3, none⟩) (ownsRow_setCell_below (a := ⟨w.heap.size + 1, 2, none⟩) (ownsRow_setCell_below (a := ⟨w.heap.size + 1, 1, none⟩) (ownsRow_setCell_below (a := ⟨w.heap.size + 1, 0, none⟩) o5 (by simp; omega) _) (by simp; omega) _) (by simp; omega) _) (by simp; omega) _) (by first | omega | (simp; omega))
end Go.Proofs.Ytommekhmdmnjlaa
