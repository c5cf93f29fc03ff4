
/- The draws of records: any record. -/
import Derived.Test.YtommekhmdmnjlaaDrawA
import Derived.Test.YtommekhmdmnjlaaOneW
namespace Go.Proofs.Ytommekhmdmnjlaa
open Go.RowKit

theorem Src.set7 {w : World} {s : Nat} {a : Option Addr} {n cap k : Nat} {zs : List Int} {g : Nat} (h : Src w s a n cap k zs) (hb : s < g) (v0 v1 v2 v3 v4 v5 v6 : Value) :
    Src (((((((w.setCell ⟨g, 0, none⟩ v0).setCell ⟨g, 1, none⟩ v1).setCell ⟨g, 2, none⟩ v2).setCell ⟨g, 3, none⟩ v3).setCell ⟨g, 4, none⟩ v4).setCell ⟨g, 5, none⟩ v5).setCell ⟨g, 6, none⟩ v6) s a n cap k zs :=
  ((((((h.set hb).set hb).set hb).set hb).set hb).set hb).set hb
theorem gr_set7 {w W : World} {row : Option Nat} {g : Nat} (h : w.grownBy W row) (hb : w.heap.size ≤ g) (v0 v1 v2 v3 v4 v5 v6 : Value) :
    w.grownBy (((((((W.setCell ⟨g, 0, none⟩ v0).setCell ⟨g, 1, none⟩ v1).setCell ⟨g, 2, none⟩ v2).setCell ⟨g, 3, none⟩ v3).setCell ⟨g, 4, none⟩ v4).setCell ⟨g, 5, none⟩ v5).setCell ⟨g, 6, none⟩ v6) row :=
  gr_set' (gr_set' (gr_set' (gr_set' (gr_set' (gr_set' (gr_set' h hb) hb) hb) hb) hb) hb) hb

/-- Some record was drawn. -/
def RecPost (d s : Nat) (a : Option Addr) (n cap k : Nat) (zs : List Int) (w : World) (e : Ending) (w' : World) : Prop :=
  ∃ r : Ch.Rec, ∃ k', e = .returned (.agg #[.int .i64 r.kd, .int .i64 r.tx, .int .i64 r.ky, .bool r.hd, .int .i64 r.ol, .bool r.hs, .int .i64 r.nw]) ∧ k' ≤ k + d ∧ Src w' s a n cap k' zs ∧ w.grownBy w' (some s)

set_option linter.unusedSimpArgs false in
set_option maxHeartbeats 4000000 in
theorem l2Rec_any (s : Nat) (a : Option Addr) (n cap k : Nat) (zs : List Int) (w : World) (h : Src w s a n cap k zs) (hb : IsB zs) (hn : n ≤ 1048580) (hk : k ≤ 900) :
    Calls Try.prog 53 #[.pointer (some ⟨s, 0, none⟩)] w (RecPost 7 s a n cap k zs w) := by
  have hsl := h.lt
  go_enter Try.func53, Try.ntmps53
  go_wp2_with fail
  refine (pick_any (w.heap.size + 1) 7 [1, 2, 2, 2, 3, 4, 5] s a n cap k zs _ h.new.new hb hn (by omega) (heap_new' (by simp)) (by omega) rfl (by omega) (by omega)).mono ?_
  rintro e w1 ⟨⟨kd, _, rfl⟩, s1, g1⟩
  have hR : w1.heap[w.heap.size]? = some (.cells #[.int .i64 0, .int .i64 0, .int .i64 0, .bool false, .int .i64 0, .bool false, .int .i64 0] 38 (0, 0)) := gr_heap g1 ((Below.heap_alloc _ _ _ (by simp)).trans (heap_alloc_new w _)) (by simp; omega)
  have G := gr_alloc (gr_alloc g1)
  have z1 := G.size
  go_wp2_with fail
  refine (next_any 4 s a n cap (k + 1) zs _ s1 hb hn (by omega) (by omega) (by omega)).mono ?_
  rintro e w2 ⟨⟨v, v0, v1, rfl⟩, s2, g2⟩
  have hR := gr_heap g2 hR (by simp; omega)
  have G := gr_trans G g2
  have hRX : w.heap.size < w2.heap.size := (Array.getElem?_eq_some_iff.1 hR).1
  have hsX : s < w2.heap.size := by omega
  have hw : IntKind.i64.wrap (1 + v) = 1 + v := IntWalk.i64_in _ ⟨by omega, by omega⟩
  obtain ⟨tx, htx⟩ : ∃ tx : Int, tx = 1 + v := ⟨_, rfl⟩
  rw [← htx] at hw
  go_wp2_with fail
  rw [← htx]
  have hX : (w2.alloc (.cells #[.int .i64 kd, .int .i64 tx, .int .i64 0, .bool false, .int .i64 0, .bool false, .int .i64 0] 38)).heap[w2.heap.size]? = some (.cells #[.int .i64 kd, .int .i64 tx, .int .i64 0, .bool false, .int .i64 0, .bool false, .int .i64 0] 38 (0, 0)) := heap_alloc_new w2 _
  have hR := (Below.heap_alloc w2 (.cells #[.int .i64 kd, .int .i64 tx, .int .i64 0, .bool false, .int .i64 0, .bool false, .int .i64 0] 38) _ hRX).trans hR
  have S0 := s2.new (o := .cells #[.int .i64 kd, .int .i64 tx, .int .i64 0, .bool false, .int .i64 0, .bool false, .int .i64 0] 38)
  have G := gr_new (o := .cells #[.int .i64 kd, .int .i64 tx, .int .i64 0, .bool false, .int .i64 0, .bool false, .int .i64 0] 38) G
  generalize w2.alloc (.cells #[.int .i64 kd, .int .i64 tx, .int .i64 0, .bool false, .int .i64 0, .bool false, .int .i64 0] 38) = w3 at *
  generalize w2.heap.size = X at *
  clear s1 s2 g1 g2 htx
  refine (l2Sets_any kd _).mono ?_
  rintro e w4 ⟨rfl, rfl⟩
  cases hset : Ch.sets kd
  · obtain ⟨x0, x1, x2, x3, x4, x5, x6⟩ := row7 hX
    obtain ⟨e0, e1, e2, e3, e4, e5, e6⟩ := frz7 hX
    obtain ⟨r0, r1, r2, r3, r4, r5, r6⟩ := row7 hR
    obtain ⟨f0, f1, f2, f3, f4, f5, f6⟩ := frz7 hR
    have lX := lt_of_cell x0
    have lR := lt_of_cell r0
    go_wp2
    exact bodyPost_ret (v := .agg #[.int .i64 kd, .int .i64 tx, .int .i64 0, .bool false, .int .i64 0, .bool false, .int .i64 0]) (by simp [results, Try.results53, go_sem, r0, r1, r2, r3, r4, r5, r6]) rfl ⟨⟨kd, tx, 0, false, 0, false, 0⟩, k + 1 + 1, rfl, by omega, S0.set7 (by omega) _ _ _ _ _ _ _, gr_set7 G (Nat.le_refl _) _ _ _ _ _ _ _⟩
  · obtain ⟨x0, x1, x2, x3, x4, x5, x6⟩ := row7 hX
    obtain ⟨e0, e1, e2, e3, e4, e5, e6⟩ := frz7 hX
    obtain ⟨r0, r1, r2, r3, r4, r5, r6⟩ := row7 hR
    obtain ⟨f0, f1, f2, f3, f4, f5, f6⟩ := frz7 hR
    have lX := lt_of_cell x0
    have lR := lt_of_cell r0
    go_wp2_with fail
    clear x0 x1 x2 x3 x4 x5 x6 e0 e1 e2 e3 e4 e5 e6 r0 r1 r2 r3 r4 r5 r6 f0 f1 f2 f3 f4 f5 f6 lX lR
    refine (next_any 9 s a n cap (k + 1 + 1) zs _ S0 hb hn (by omega) (by omega) (by omega)).mono ?_
    rintro e w5 ⟨⟨vw5, vw50, vw51, rfl⟩, S0, gw5⟩
    have hR := gr_heap gw5 hR (by simp; omega)
    have hX := gr_heap gw5 hX (by simp; omega)
    have G := gr_trans G gw5
    obtain ⟨x0, x1, x2, x3, x4, x5, x6⟩ := row7 hX
    obtain ⟨e0, e1, e2, e3, e4, e5, e6⟩ := frz7 hX
    obtain ⟨r0, r1, r2, r3, r4, r5, r6⟩ := row7 hR
    obtain ⟨f0, f1, f2, f3, f4, f5, f6⟩ := frz7 hR
    have lX := lt_of_cell x0
    have lR := lt_of_cell r0
    go_wp2_with fail
    clear x0 x1 x2 x3 x4 x5 x6 e0 e1 e2 e3 e4 e5 e6 r0 r1 r2 r3 r4 r5 r6 f0 f1 f2 f3 f4 f5 f6 lX lR
    have hR : (w5.setCell ⟨X, 2, none⟩ (.int .i64 vw5)).heap[w.heap.size]? = _ := (Below.heap_setCell _ _ _ _ (by show w.heap.size ≠ X; omega)).trans hR
    have hX := Joins.block_setCell (i := 2) hX (.int .i64 vw5)
    simp only [List.setIfInBounds_toArray, List.set_cons_zero, List.set_cons_succ] at hX
    have S0 := S0.set (b := X) (o := 2) (v := .int .i64 vw5) (by omega)
    have G := gr_set' (b := X) (o := 2) (v := .int .i64 vw5) G (by omega)
    generalize w5.setCell ⟨X, 2, none⟩ (.int .i64 vw5) = y5 at *
    refine (chance_any 2 s a n cap (k + 1 + 1 + 1) zs _ S0 hb hn (by omega) (by omega) (by omega)).mono ?_
    rintro e w6 ⟨⟨bw6, rfl⟩, S0, gw6⟩
    have hR := gr_heap gw6 hR (by simp; omega)
    have hX := gr_heap gw6 hX (by simp; omega)
    have G := gr_trans G gw6
    obtain ⟨x0, x1, x2, x3, x4, x5, x6⟩ := row7 hX
    obtain ⟨e0, e1, e2, e3, e4, e5, e6⟩ := frz7 hX
    obtain ⟨r0, r1, r2, r3, r4, r5, r6⟩ := row7 hR
    obtain ⟨f0, f1, f2, f3, f4, f5, f6⟩ := frz7 hR
    have lX := lt_of_cell x0
    have lR := lt_of_cell r0
    go_wp2_with fail
    clear x0 x1 x2 x3 x4 x5 x6 e0 e1 e2 e3 e4 e5 e6 r0 r1 r2 r3 r4 r5 r6 f0 f1 f2 f3 f4 f5 f6 lX lR
    have hR : (w6.setCell ⟨X, 3, none⟩ (.bool bw6)).heap[w.heap.size]? = _ := (Below.heap_setCell _ _ _ _ (by show w.heap.size ≠ X; omega)).trans hR
    have hX := Joins.block_setCell (i := 3) hX (.bool bw6)
    simp only [List.setIfInBounds_toArray, List.set_cons_zero, List.set_cons_succ] at hX
    have S0 := S0.set (b := X) (o := 3) (v := .bool bw6) (by omega)
    have G := gr_set' (b := X) (o := 3) (v := .bool bw6) G (by omega)
    generalize w6.setCell ⟨X, 3, none⟩ (.bool bw6) = y6 at *
    refine (chance_any 4 s a n cap (k + 1 + 1 + 1 + 1) zs _ S0 hb hn (by omega) (by omega) (by omega)).mono ?_
    rintro e w7 ⟨⟨bw7, rfl⟩, S0, gw7⟩
    have hR := gr_heap gw7 hR (by simp; omega)
    have hX := gr_heap gw7 hX (by simp; omega)
    have G := gr_trans G gw7
    cases bw6
    · cases bw7
      · obtain ⟨x0, x1, x2, x3, x4, x5, x6⟩ := row7 hX
        obtain ⟨e0, e1, e2, e3, e4, e5, e6⟩ := frz7 hX
        obtain ⟨r0, r1, r2, r3, r4, r5, r6⟩ := row7 hR
        obtain ⟨f0, f1, f2, f3, f4, f5, f6⟩ := frz7 hR
        have lX := lt_of_cell x0
        have lR := lt_of_cell r0
        go_wp2_with fail
        clear x0 x1 x2 x3 x4 x5 x6 e0 e1 e2 e3 e4 e5 e6 r0 r1 r2 r3 r4 r5 r6 f0 f1 f2 f3 f4 f5 f6 lX lR
        have hR : (w7.setCell ⟨X, 5, none⟩ (.bool true)).heap[w.heap.size]? = _ := (Below.heap_setCell _ _ _ _ (by show w.heap.size ≠ X; omega)).trans hR
        have hX := Joins.block_setCell (i := 5) hX (.bool true)
        simp only [List.setIfInBounds_toArray, List.set_cons_zero, List.set_cons_succ] at hX
        have S0 := S0.set (b := X) (o := 5) (v := .bool true) (by omega)
        have G := gr_set' (b := X) (o := 5) (v := .bool true) G (by omega)
        generalize w7.setCell ⟨X, 5, none⟩ (.bool true) = y7 at *
        refine (next_any 50 s a n cap (k + 1 + 1 + 1 + 1 + 1) zs _ S0 hb hn (by omega) (by omega) (by omega)).mono ?_
        rintro e w9 ⟨⟨vw9, vw90, vw91, rfl⟩, S0, gw9⟩
        have hR := gr_heap gw9 hR (by simp; omega)
        have hX := gr_heap gw9 hX (by simp; omega)
        have G := gr_trans G gw9
        obtain ⟨x0, x1, x2, x3, x4, x5, x6⟩ := row7 hX
        obtain ⟨e0, e1, e2, e3, e4, e5, e6⟩ := frz7 hX
        obtain ⟨r0, r1, r2, r3, r4, r5, r6⟩ := row7 hR
        obtain ⟨f0, f1, f2, f3, f4, f5, f6⟩ := frz7 hR
        have lX := lt_of_cell x0
        have lR := lt_of_cell r0
        go_wp2
        exact bodyPost_ret (v := .agg #[.int .i64 kd, .int .i64 tx, .int .i64 vw5, .bool false, .int .i64 0, .bool true, .int .i64 vw9]) (by simp [results, Try.results53, go_sem, r0, r1, r2, r3, r4, r5, r6]) rfl ⟨⟨kd, tx, vw5, false, 0, true, vw9⟩, k + 1 + 1 + 1 + 1 + 1 + 1, rfl, by omega, (S0.set (by omega)).set7 (by omega) _ _ _ _ _ _ _, gr_set7 (gr_set' G (by omega)) (Nat.le_refl _) _ _ _ _ _ _ _⟩
      · obtain ⟨x0, x1, x2, x3, x4, x5, x6⟩ := row7 hX
        obtain ⟨e0, e1, e2, e3, e4, e5, e6⟩ := frz7 hX
        obtain ⟨r0, r1, r2, r3, r4, r5, r6⟩ := row7 hR
        obtain ⟨f0, f1, f2, f3, f4, f5, f6⟩ := frz7 hR
        have lX := lt_of_cell x0
        have lR := lt_of_cell r0
        go_wp2
        exact bodyPost_ret (v := .agg #[.int .i64 kd, .int .i64 tx, .int .i64 vw5, .bool false, .int .i64 0, .bool false, .int .i64 0]) (by simp [results, Try.results53, go_sem, r0, r1, r2, r3, r4, r5, r6]) rfl ⟨⟨kd, tx, vw5, false, 0, false, 0⟩, k + 1 + 1 + 1 + 1 + 1, rfl, by omega, (S0.set (by omega)).set7 (by omega) _ _ _ _ _ _ _, gr_set7 (gr_set' G (by omega)) (Nat.le_refl _) _ _ _ _ _ _ _⟩
    · cases bw7
      · obtain ⟨x0, x1, x2, x3, x4, x5, x6⟩ := row7 hX
        obtain ⟨e0, e1, e2, e3, e4, e5, e6⟩ := frz7 hX
        obtain ⟨r0, r1, r2, r3, r4, r5, r6⟩ := row7 hR
        obtain ⟨f0, f1, f2, f3, f4, f5, f6⟩ := frz7 hR
        have lX := lt_of_cell x0
        have lR := lt_of_cell r0
        go_wp2_with fail
        clear x0 x1 x2 x3 x4 x5 x6 e0 e1 e2 e3 e4 e5 e6 r0 r1 r2 r3 r4 r5 r6 f0 f1 f2 f3 f4 f5 f6 lX lR
        have hR : (w7.setCell ⟨X, 5, none⟩ (.bool true)).heap[w.heap.size]? = _ := (Below.heap_setCell _ _ _ _ (by show w.heap.size ≠ X; omega)).trans hR
        have hX := Joins.block_setCell (i := 5) hX (.bool true)
        simp only [List.setIfInBounds_toArray, List.set_cons_zero, List.set_cons_succ] at hX
        have S0 := S0.set (b := X) (o := 5) (v := .bool true) (by omega)
        have G := gr_set' (b := X) (o := 5) (v := .bool true) G (by omega)
        generalize w7.setCell ⟨X, 5, none⟩ (.bool true) = y7 at *
        refine (next_any 50 s a n cap (k + 1 + 1 + 1 + 1 + 1) zs _ S0 hb hn (by omega) (by omega) (by omega)).mono ?_
        rintro e w8 ⟨⟨vw8, vw80, vw81, rfl⟩, S0, gw8⟩
        have hR := gr_heap gw8 hR (by simp; omega)
        have hX := gr_heap gw8 hX (by simp; omega)
        have G := gr_trans G gw8
        obtain ⟨x0, x1, x2, x3, x4, x5, x6⟩ := row7 hX
        obtain ⟨e0, e1, e2, e3, e4, e5, e6⟩ := frz7 hX
        obtain ⟨r0, r1, r2, r3, r4, r5, r6⟩ := row7 hR
        obtain ⟨f0, f1, f2, f3, f4, f5, f6⟩ := frz7 hR
        have lX := lt_of_cell x0
        have lR := lt_of_cell r0
        go_wp2_with fail
        clear x0 x1 x2 x3 x4 x5 x6 e0 e1 e2 e3 e4 e5 e6 r0 r1 r2 r3 r4 r5 r6 f0 f1 f2 f3 f4 f5 f6 lX lR
        have hR : (w8.setCell ⟨X, 4, none⟩ (.int .i64 vw8)).heap[w.heap.size]? = _ := (Below.heap_setCell _ _ _ _ (by show w.heap.size ≠ X; omega)).trans hR
        have hX := Joins.block_setCell (i := 4) hX (.int .i64 vw8)
        simp only [List.setIfInBounds_toArray, List.set_cons_zero, List.set_cons_succ] at hX
        have S0 := S0.set (b := X) (o := 4) (v := .int .i64 vw8) (by omega)
        have G := gr_set' (b := X) (o := 4) (v := .int .i64 vw8) G (by omega)
        generalize w8.setCell ⟨X, 4, none⟩ (.int .i64 vw8) = y8 at *
        refine (next_any 50 s a n cap (k + 1 + 1 + 1 + 1 + 1 + 1) zs _ S0 hb hn (by omega) (by omega) (by omega)).mono ?_
        rintro e w9 ⟨⟨vw9, vw90, vw91, rfl⟩, S0, gw9⟩
        have hR := gr_heap gw9 hR (by simp; omega)
        have hX := gr_heap gw9 hX (by simp; omega)
        have G := gr_trans G gw9
        obtain ⟨x0, x1, x2, x3, x4, x5, x6⟩ := row7 hX
        obtain ⟨e0, e1, e2, e3, e4, e5, e6⟩ := frz7 hX
        obtain ⟨r0, r1, r2, r3, r4, r5, r6⟩ := row7 hR
        obtain ⟨f0, f1, f2, f3, f4, f5, f6⟩ := frz7 hR
        have lX := lt_of_cell x0
        have lR := lt_of_cell r0
        go_wp2
        exact bodyPost_ret (v := .agg #[.int .i64 kd, .int .i64 tx, .int .i64 vw5, .bool true, .int .i64 vw8, .bool true, .int .i64 vw9]) (by simp [results, Try.results53, go_sem, r0, r1, r2, r3, r4, r5, r6]) rfl ⟨⟨kd, tx, vw5, true, vw8, true, vw9⟩, k + 1 + 1 + 1 + 1 + 1 + 1 + 1, rfl, by omega, (S0.set (by omega)).set7 (by omega) _ _ _ _ _ _ _, gr_set7 (gr_set' G (by omega)) (Nat.le_refl _) _ _ _ _ _ _ _⟩
      · obtain ⟨x0, x1, x2, x3, x4, x5, x6⟩ := row7 hX
        obtain ⟨e0, e1, e2, e3, e4, e5, e6⟩ := frz7 hX
        obtain ⟨r0, r1, r2, r3, r4, r5, r6⟩ := row7 hR
        obtain ⟨f0, f1, f2, f3, f4, f5, f6⟩ := frz7 hR
        have lX := lt_of_cell x0
        have lR := lt_of_cell r0
        go_wp2_with fail
        clear x0 x1 x2 x3 x4 x5 x6 e0 e1 e2 e3 e4 e5 e6 r0 r1 r2 r3 r4 r5 r6 f0 f1 f2 f3 f4 f5 f6 lX lR
        have hR : (w7.setCell ⟨X, 5, none⟩ (.bool false)).heap[w.heap.size]? = _ := (Below.heap_setCell _ _ _ _ (by show w.heap.size ≠ X; omega)).trans hR
        have hX := Joins.block_setCell (i := 5) hX (.bool false)
        simp only [List.setIfInBounds_toArray, List.set_cons_zero, List.set_cons_succ] at hX
        have S0 := S0.set (b := X) (o := 5) (v := .bool false) (by omega)
        have G := gr_set' (b := X) (o := 5) (v := .bool false) G (by omega)
        generalize w7.setCell ⟨X, 5, none⟩ (.bool false) = y7 at *
        refine (next_any 50 s a n cap (k + 1 + 1 + 1 + 1 + 1) zs _ S0 hb hn (by omega) (by omega) (by omega)).mono ?_
        rintro e w8 ⟨⟨vw8, vw80, vw81, rfl⟩, S0, gw8⟩
        have hR := gr_heap gw8 hR (by simp; omega)
        have hX := gr_heap gw8 hX (by simp; omega)
        have G := gr_trans G gw8
        obtain ⟨x0, x1, x2, x3, x4, x5, x6⟩ := row7 hX
        obtain ⟨e0, e1, e2, e3, e4, e5, e6⟩ := frz7 hX
        obtain ⟨r0, r1, r2, r3, r4, r5, r6⟩ := row7 hR
        obtain ⟨f0, f1, f2, f3, f4, f5, f6⟩ := frz7 hR
        have lX := lt_of_cell x0
        have lR := lt_of_cell r0
        go_wp2
        exact bodyPost_ret (v := .agg #[.int .i64 kd, .int .i64 tx, .int .i64 vw5, .bool true, .int .i64 vw8, .bool false, .int .i64 0]) (by simp [results, Try.results53, go_sem, r0, r1, r2, r3, r4, r5, r6]) rfl ⟨⟨kd, tx, vw5, true, vw8, false, 0⟩, k + 1 + 1 + 1 + 1 + 1 + 1, rfl, by omega, (S0.set (by omega)).set7 (by omega) _ _ _ _ _ _ _, gr_set7 (gr_set' G (by omega)) (Nat.le_refl _) _ _ _ _ _ _ _⟩

end Go.Proofs.Ytommekhmdmnjlaa
