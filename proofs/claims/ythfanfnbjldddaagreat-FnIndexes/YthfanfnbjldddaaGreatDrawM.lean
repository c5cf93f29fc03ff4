
/- The draw of a row: any right row. -/
import Derived.Test.YthfanfnbjldddaaGreatDrawL
namespace Go.Proofs.YthfanfnbjldddaaGreat
open Go.RowKit

/-- Some right row was drawn. -/
def RowPost (d s : Nat) (a : Option Addr) (n cap k : Nat) (zs : List Int) (w : World) (e : Ending) (w' : World) : Prop :=
  ∃ r : Ch.Row, ∃ k', r.fault = 0 ∧ 0 ≤ r.k ∧ r.k < 20 ∧ e = .returned (.agg #[.int .i64 r.k, .int .i64 r.v, .bool r.g]) ∧ k' = k + d ∧ Src w' s a n cap k' zs ∧ w.grownBy w' (some s)

theorem row3 {w : World} {b : Nat} {t : TypeId} {f : Nat × Nat} {c0 c1 c2 : Value} (h : w.heap[b]? = some (.cells #[c0, c1, c2] t f)) : w.cell? ⟨b, 0, none⟩ = some c0 ∧ w.cell? ⟨b, 1, none⟩ = some c1 ∧ w.cell? ⟨b, 2, none⟩ = some c2 :=
  ⟨cell_of_row _ _ _ _ _ _ h, cell_of_row _ _ _ _ _ _ h, cell_of_row _ _ _ _ _ _ h⟩
theorem frz3 {w : World} {b : Nat} {t : TypeId} {c0 c1 c2 : Value} (h : w.heap[b]? = some (.cells #[c0, c1, c2] t (0, 0))) : w.frozen? ⟨b, 0, none⟩ = false ∧ w.frozen? ⟨b, 1, none⟩ = false ∧ w.frozen? ⟨b, 2, none⟩ = false := by
  simp [World.frozen?, h]
theorem gr_set3 {w W : World} {row : Option Nat} {g : Nat} (h : w.grownBy W row) (hb : w.heap.size ≤ g) (v0 v1 v2 : Value) : w.grownBy (((W.setCell ⟨g, 0, none⟩ v0).setCell ⟨g, 1, none⟩ v1).setCell ⟨g, 2, none⟩ v2) row := gr_set' (gr_set' (gr_set' h hb) hb) hb
theorem Src.set3 {w : World} {s : Nat} {a : Option Addr} {n cap k : Nat} {zs : List Int} {g : Nat} (h : Src w s a n cap k zs) (hb : s < g) (v0 v1 v2 : Value) : Src (((w.setCell ⟨g, 0, none⟩ v0).setCell ⟨g, 1, none⟩ v1).setCell ⟨g, 2, none⟩ v2) s a n cap k zs := ((h.set hb).set hb).set hb
theorem Ch.drawn_right {k v : Int} (h0 : 0 ≤ k) (h1 : k < 20) (h2 : 0 ≤ v) (h3 : v < 50) : Ch.Row.fault ⟨k, v, false⟩ = 0 := by
  have a : Ch.inB k 0 99 = true := by unfold Ch.inB; simp; omega
  have b : Ch.inB v 0 9999 = true := by unfold Ch.inB; simp; omega
  simp [Ch.Row.fault, Ch.rowFault, a, b]
theorem Ch.drawn_ghost {k : Int} (h0 : 0 ≤ k) (h1 : k < 20) : Ch.Row.fault ⟨k, 0, true⟩ = 0 := by
  have a : Ch.inB k 0 99 = true := by unfold Ch.inB; simp; omega
  have b : Ch.inB 0 0 9999 = true := by decide
  simp [Ch.Row.fault, Ch.rowFault, a, b]

set_option linter.unusedSimpArgs false in
set_option maxHeartbeats 2000000 in
theorem l1Row_any (s : Nat) (a : Option Addr) (n cap k : Nat) (zs : List Int) (w : World) (h : Src w s a n cap k zs) (hb : IsB zs) (hn : n ≤ 1048580) (hk : k ≤ 900) :
    Calls Tryz.prog 86 #[.pointer (some ⟨s, 0, none⟩)] w (RowPost 3 s a n cap k zs w) := by
  have hsl := h.lt
  go_enter Tryz.func86, Tryz.ntmps86
  go_wp2_with fail
  refine (next_any 20 s a n cap k zs _ h.new hb hn (by omega) (by omega) (by omega)).mono ?_
  rintro e w1 ⟨⟨x, x0, x1, rfl⟩, s1, g1⟩
  have hR : w1.heap[w.heap.size]? = some (.cells #[.int .i64 0, .int .i64 0, .bool false] 53 (0, 0)) := gr_heap g1 (heap_alloc_new w _) (by simp; omega)
  have G := gr_alloc g1
  go_wp2_with fail
  refine (next_any 50 s a n cap (k + 1) zs _ s1 hb hn (by omega) (by omega) (by omega)).mono ?_
  rintro e w2 ⟨⟨v, v0, v1, rfl⟩, s2, g2⟩
  have hR := gr_heap g2 hR (by simp; omega)
  have G := gr_trans G g2
  have hz2 := G.size
  have hRX : w.heap.size < w2.heap.size := (Array.getElem?_eq_some_iff.1 hR).1
  clear s1 g1 g2
  go_wp2_with fail
  refine (chance_any 5 s a n cap (k + 1 + 1) zs _ s2.new hb hn (by omega) (by omega) (by omega)).mono ?_
  rintro e w3 ⟨⟨c, rfl⟩, s3, g3⟩
  have hX : w3.heap[w2.heap.size]? = some (.cells #[.int .i64 x, .int .i64 v, .bool false] 53 (0, 0)) := gr_heap g3 (heap_alloc_new w2 _) (by simp; omega)
  have hR := gr_heap g3 ((Below.heap_alloc w2 _ _ hRX).trans hR) (by simp; omega)
  have G := gr_trans G (gr_alloc g3)
  obtain ⟨p0, p1, p2⟩ := row3 hX
  obtain ⟨e0, e1, e2⟩ := frz3 hX
  obtain ⟨r0, r1, r2⟩ := row3 hR
  obtain ⟨f0, f1, f2⟩ := frz3 hR
  have lX := lt_of_cell p0
  have lR := lt_of_cell r0
  generalize w2.heap.size = X at *
  clear g3 s2 hX
  cases c with
  | false =>
    go_wp2
    exact bodyPost_ret (v := .agg #[.int .i64 x, .int .i64 v, .bool false]) (by simp [results, Tryz.results86, go_sem, r0, r1, r2]) rfl ⟨⟨x, v, false⟩, k + 1 + 1 + 1, Ch.drawn_right x0 x1 v0 v1, x0, x1, rfl, rfl, s3.set3 (by omega) _ _ _, gr_set3 G (Nat.le_refl _) _ _ _⟩
  | true =>
    go_wp2
    exact bodyPost_ret (v := .agg #[.int .i64 x, .int .i64 0, .bool true]) (by simp [results, Tryz.results86, go_sem, r0, r1, r2]) rfl ⟨⟨x, 0, true⟩, k + 1 + 1 + 1, Ch.drawn_ghost x0 x1, x0, x1, rfl, rfl, Src.set3 ((s3.set (by omega)).set (by omega)) (by omega) _ _ _, gr_set3 (gr_set' (gr_set' G (by omega)) (by omega)) (Nat.le_refl _) _ _ _⟩
end Go.Proofs.YthfanfnbjldddaaGreat
