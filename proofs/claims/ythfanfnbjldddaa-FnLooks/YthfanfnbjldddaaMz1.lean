/- Several texts in one: DrawL, DrawM, DrawN. -/
import Derived.Test.YthfanfnbjldddaaMz2


/- The draws: the source of numbers, and what is drawn out of it (any numbers within their bounds). -/
namespace Go.Proofs.Ythfanfnbjldddaa
open Go.RowKit

/-- The source: its box holds the bytes and how many numbers were drawn; the bytes lie elsewhere. -/
structure Src (w : World) (s : Nat) (a : Option Addr) (n cap k : Nat) (zs : List Int) : Prop where
  box : w.heap[s]? = some (.cells #[.slice a n cap, .int .i64 k] 138 (0, 0))
  far : 0 < n → ∀ b off, a = some ⟨b, off, none⟩ → b < s
  bytes : CellsAt w a n (bts zs)

theorem Src.lt {w : World} {s : Nat} {a : Option Addr} {n cap k : Nat} {zs : List Int} (h : Src w s a n cap k zs) : s < w.heap.size := (Array.getElem?_eq_some_iff.1 h.box).1

theorem Src.grown {w w' : World} {s : Nat} {a : Option Addr} {n cap k : Nat} {zs : List Int} {row : Option Nat} (h : Src w s a n cap k zs) (hg : w.grownBy w' row) (hr : ∀ r, row = some r → s < r) : Src w' s a n cap k zs := by
  refine ⟨?_, h.far, h.bytes.1, fun hm => ?_⟩
  · rw [hg.block s h.lt (fun e => by have := hr s e.symm; omega)]; exact h.box
  · obtain ⟨b, off, ha, hc⟩ := h.bytes.2 hm
    have hbs := h.far hm b off ha
    refine ⟨b, off, ha, fun i hi => ?_⟩
    rw [← hc i hi]
    exact World.grownBy.cell_far hg ⟨b, off + i, none⟩ (Nat.lt_trans hbs h.lt) (fun e => by have := hr b e.symm; omega)

theorem Src.below {w w' : World} {s B : Nat} {a : Option Addr} {n cap k : Nat} {zs : List Int} (h : Src w s a n cap k zs) (hb : Below B w w') (hB : s < B) : Src w' s a n cap k zs := by
  refine ⟨by rw [hb.block s hB]; exact h.box, h.far, h.bytes.1, fun hm => ?_⟩
  obtain ⟨b, off, ha, hc⟩ := h.bytes.2 hm
  refine ⟨b, off, ha, fun i hi => ?_⟩
  rw [← hc i hi]
  exact hb.cell (p := ⟨b, off + i, none⟩) (by have := h.far hm b off ha; show b < B; omega)

theorem Src.step {w : World} {s : Nat} {a : Option Addr} {n cap k : Nat} {zs : List Int} (h : Src w s a n cap k zs) {i : Int} (hi : i = (k : Int) + 1) : Src (w.setCell ⟨s, 1, none⟩ (.int .i64 i)) s a n cap (k + 1) zs := by
  subst hi
  refine ⟨?_, h.far, h.bytes.1, fun hm => ?_⟩
  · simp only [World.setCell, Array.getElem?_modify, if_true, h.box]
    simp
  · obtain ⟨b, off, ha, hc⟩ := h.bytes.2 hm
    refine ⟨b, off, ha, fun i hi => ?_⟩
    rw [← hc i hi]
    exact World.cell?_of_block (Below.heap_setCell _ _ _ _ (by have := h.far hm b off ha; show b ≠ s; omega))

theorem Src.drewN {w : World} {s : Nat} {a : Option Addr} {n cap k : Nat} {zs : List Int} (h : Src w s a n cap k zs) (q : Nat) : Src (w.drewN q) s a n cap k zs := ⟨h.box, h.far, h.bytes⟩

theorem gr_set {w : World} {s o : Nat} {v : Value} : w.grownBy (w.setCell ⟨s, o, none⟩ v) (some s) := ⟨rfl, rfl, rfl, by simp [World.setCell], fun k _ hne => Below.heap_setCell _ _ _ _ (by intro e; exact hne (by rw [e]))⟩

theorem gr_drewN {w w' : World} {row : Option Nat} (h : w.grownBy w' row) (q : Nat) : w.grownBy (w'.drewN q) row := ⟨h.os, h.tape, h.output, h.size, h.block⟩

theorem gr_below {w w' : World} (h : Below w.heap.size w w') (row : Option Nat) : w.grownBy w' row := ⟨h.os, h.tape, h.output, h.size, fun k hk _ => h.block k hk⟩

theorem below_gr {w w' : World} {s B : Nat} (h : w.grownBy w' (some s)) (hB : B ≤ s) (hB' : B ≤ w.heap.size) : Below B w w' :=
  ⟨h.os, h.tape, h.output, h.size, fun k hk => h.block k (by omega) (by intro e; simp only [Option.some.injEq] at e; omega)⟩

set_option maxHeartbeats 1000000 in
theorem next_any (N : Int) (s : Nat) (a : Option Addr) (n cap k : Nat) (zs : List Int) (w : World) (h : Src w s a n cap k zs) (hb : IsB zs) (hn : n ≤ 1048580) (hk : k ≤ 1000) (h1 : 1 ≤ N) (h2 : N ≤ 256) :
    Calls Try.prog 58 #[.pointer (some ⟨s, 0, none⟩), .int .i64 N] w fun e w' => (∃ v : Int, 0 ≤ v ∧ v < N ∧ e = .returned (.int .i64 v)) ∧ Src w' s a n cap (k + 1) zs ∧ w.grownBy w' (some s) := by
  have hS := h.step (i := (k : Int) + 1) rfl
  have q0 : w.cell? ⟨s, 0, none⟩ = some (.slice a n cap) := cell_of_row _ _ _ _ _ _ h.box
  have q1 : w.cell? ⟨s, 1, none⟩ = some (.int .i64 k) := cell_of_row _ _ _ _ _ _ h.box
  have hfz : w.frozen? ⟨s, 1, none⟩ = false := by simp [World.frozen?, h.box]
  have hgr : w.grownBy (w.setCell ⟨s, 1, none⟩ (.int .i64 ((k : Int) + 1))) (some s) := gr_set
  have hlt1 : ¬ N < 1 := by omega
  by_cases h0 : n = 0
  · subst h0
    have m0 : 0 ≤ ((k : Int) * 7) % N := Int.emod_nonneg _ (by omega)
    have m1 : ((k : Int) * 7) % N < N := Int.emod_lt_of_pos _ (by omega)
    go_enter Try.func58, Try.ntmps58
    go_wp2
    go_ret
    exact ⟨⟨_, m0, m1, rfl⟩, hS, hgr⟩
  · obtain ⟨j, hj, hjn⟩ : ∃ j : Nat, (k : Int) % (n : Int) = j ∧ j < n := ⟨k % n, by simp, Nat.mod_lt _ (by omega)⟩
    obtain ⟨j', hj', hjn'⟩ : ∃ j : Nat, ((k : Int) + 1) % (n : Int) = j ∧ j < n := ⟨(k + 1) % n, by simp, Nat.mod_lt _ (by omega)⟩
    obtain ⟨p, hp, hpk⟩ : ∃ p : Nat, (k : Int) / (n : Int) = p ∧ p ≤ k := ⟨k / n, by simp, Nat.div_le_self _ _⟩
    obtain ⟨b, off, rfl, hc⟩ := h.bytes.at hjn
    obtain ⟨b', off', hbo, hc'⟩ := h.bytes.at hjn'
    simp only [Option.some.injEq, Addr.mk.injEq, and_true] at hbo
    obtain ⟨rfl, rfl⟩ := hbo
    obtain ⟨x0, x1⟩ := hb j
    obtain ⟨y0, y1⟩ := hb j'
    generalize zs.getD j 0 = x at *
    generalize zs.getD j' 0 = y at *
    have hfar : b ≠ s := by have := h.far (by omega) _ _ rfl; omega
    have hn0 : ((n : Int) == 0) = false := by simpa using h0
    have hn1 : (n : Int) ≠ 0 := by omega
    by_cases hN : 200 < N
    · have m0 : 0 ≤ ((x + (p : Int) * 37) * 251 + y * 13 + k) % N := Int.emod_nonneg _ (by omega)
      have m1 : ((x + (p : Int) * 37) * 251 + y * 13 + k) % N < N := Int.emod_lt_of_pos _ (by omega)
      go_enter Try.func58, Try.ntmps58
      go_wp2
      go_quiet (fail)
      go_wp2
      go_quiet (fail)
      go_wp2
      go_ret
      exact ⟨⟨_, m0, m1, rfl⟩, hS.drewN _, gr_drewN hgr _⟩
    · have m0 : 0 ≤ (x + (p : Int) * 37) % N := Int.emod_nonneg _ (by omega)
      have m1 : (x + (p : Int) * 37) % N < N := Int.emod_lt_of_pos _ (by omega)
      go_enter Try.func58, Try.ntmps58
      go_wp2
      go_quiet (fail)
      go_wp2
      go_ret
      exact ⟨⟨_, m0, m1, rfl⟩, hS.drewN _, gr_drewN hgr _⟩

theorem chance_any (N : Int) (s : Nat) (a : Option Addr) (n cap k : Nat) (zs : List Int) (w : World) (h : Src w s a n cap k zs) (hb : IsB zs) (hn : n ≤ 1048580) (hk : k ≤ 1000) (h1 : 1 ≤ N) (h2 : N ≤ 256) :
    Calls Try.prog 56 #[.pointer (some ⟨s, 0, none⟩), .int .i64 N] w fun e w' => (∃ v : Bool, e = .returned (.bool v)) ∧ Src w' s a n cap (k + 1) zs ∧ w.grownBy w' (some s) := by
  go_enter Try.func56, Try.ntmps56
  go_wp2_with fail
  refine (next_any N s a n cap k zs w h hb hn hk h1 h2).mono ?_
  rintro e w1 ⟨⟨v, v0, v1, rfl⟩, s1, g1⟩
  go_wp2
  go_ret
  exact ⟨⟨_, rfl⟩, s1, g1⟩

theorem gr_set' {w w' : World} {row : Option Nat} {b o : Nat} {v : Value} (h : w.grownBy w' row) (hb : w.heap.size ≤ b) : w.grownBy (w'.setCell ⟨b, o, none⟩ v) row :=
  ⟨h.os, h.tape, h.output, by have := h.size; simpa [World.setCell] using this, fun k hk hne => (Below.heap_setCell _ _ _ _ (by show k ≠ b; omega)).trans (h.block k hk hne)⟩

theorem gr_new {w w' : World} {row : Option Nat} {o : Obj} (h : w.grownBy w' row) : w.grownBy (w'.alloc o) row :=
  ⟨h.os, h.tape, h.output, by have := h.size; simp; omega, fun k hk hne => (Below.heap_alloc _ _ _ (by have := h.size; omega)).trans (h.block k hk hne)⟩

theorem Src.set {w : World} {s : Nat} {a : Option Addr} {n cap k : Nat} {zs : List Int} {b o : Nat} {v : Value} (h : Src w s a n cap k zs) (hb : s < b) : Src (w.setCell ⟨b, o, none⟩ v) s a n cap k zs :=
  h.below (B := b) ((Below.refl _ _).setCell (p := ⟨b, o, none⟩) (Nat.le_refl _) _) hb

theorem Src.new {w : World} {s : Nat} {a : Option Addr} {n cap k : Nat} {zs : List Int} {o : Obj} (h : Src w s a n cap k zs) : Src (w.alloc o) s a n cap k zs :=
  h.below (B := w.heap.size) ((Below.refl _ _).alloc (Nat.le_refl _) _) h.lt

theorem gr_heap {w w' : World} {row : Option Nat} {b : Nat} {o : Obj} (hg : w.grownBy w' row) (h : w.heap[b]? = some o) (hne : row ≠ some b) : w'.heap[b]? = some o :=
  (hg.block b (Array.getElem?_eq_some_iff.1 h).1 (fun e => hne e.symm)).trans h

theorem frz_of {w : World} {b o : Nat} {c : Array Value} {t : TypeId} (h : w.heap[b]? = some (.cells c t (0, 0))) : w.frozen? ⟨b, o, none⟩ = false := by simp [World.frozen?, h]

theorem source_any (a : Option Addr) (n cap : Nat) (zs : List Int) (w : World) (h : CellsAt w a n (bts zs)) :
    Calls Try.prog 55 #[.slice a n cap] w fun e w' => e = .returned (.pointer (some ⟨w.heap.size, 0, none⟩)) ∧ Src w' w.heap.size a n cap 0 zs ∧ Below w.heap.size w w' := by
  have b0 : Below w.heap.size w (w.alloc (.cells #[.slice a n cap, .int .i64 0] 138)) := (Below.refl _ _).alloc (Nat.le_refl _) _
  go_enter Try.func55, Try.ntmps55
  go_wp2
  go_ret
  refine ⟨rfl, ⟨heap_alloc_new w _, fun hn b off ha => ?_, h.below b0⟩, b0⟩
  subst ha
  obtain ⟨b', off', hb, hc⟩ := h.at hn
  simp only [Option.some.injEq, Addr.mk.injEq, and_true] at hb
  obtain ⟨rfl, rfl⟩ := hb
  exact lt_of_cell hc

theorem gr_on {w w' w'' : World} {row : Option Nat} (h : w.grownBy w' row) (hb : Below w.heap.size w' w'') : w.grownBy w'' row :=
  ⟨hb.os.trans h.os, hb.tape.trans h.tape, hb.output.trans h.output, Nat.le_trans h.size hb.size, fun k hk hne => (hb.block k hk).trans (h.block k hk hne)⟩

theorem big_any (a : Option Addr) (n cap : Nat) (w : World) :
    Calls Try.prog 11 #[.slice a n cap] w fun e w' => e = .returned (.bool (decide ((1048576 : Int) < n))) ∧ w' = w := by
  go_enter Try.func11, Try.ntmps11
  go_wp2
  go_ret
  exact ⟨rfl, rfl⟩

set_option maxHeartbeats 1000000 in
theorem pick_any (g m : Nat) (us : List Int) (s : Nat) (a : Option Addr) (n cap k : Nat) (zs : List Int) (w : World) (h : Src w s a n cap k zs) (hb : IsB zs) (hn : n ≤ 1048580) (hk : k ≤ 1000)
    (hg : w.heap[g]? = some (.cells (us.map (Value.int .i64)).toArray 2 (0, 0))) (hs : g ≠ s) (hm : us.length = m) (h1 : 1 ≤ m) (h2 : m ≤ 256) :
    Calls Try.prog 57 #[.pointer (some ⟨s, 0, none⟩), .slice (some ⟨g, 0, none⟩) m m] w fun e w' => (∃ v : Int, v ∈ us ∧ e = .returned (.int .i64 v)) ∧ Src w' s a n cap (k + 1) zs ∧ w.grownBy w' (some s) := by
  go_enter Try.func57, Try.ntmps57
  go_wp2_with fail
  refine (next_any (m : Int) s a n cap k zs w h hb hn hk (by omega) (by omega)).mono ?_
  rintro e w1 ⟨⟨v, v0, v1, rfl⟩, s1, g1⟩
  obtain ⟨j, rfl⟩ : ∃ j : Nat, v = (j : Int) := ⟨v.toNat, by omega⟩
  have hj : j < us.length := by omega
  have q := gr_heap g1 hg (by simp; omega)
  have q0 : w1.cell? ⟨g, j, none⟩ = some (.int .i64 us[j]) := by
    rw [cell_of_row _ _ _ _ _ _ q]
    simp [hj]
  have hmem : us[j] ∈ us := List.getElem_mem hj
  generalize us[j] = x at *
  go_wp2
  go_ret
  exact ⟨⟨x, hmem, rfl⟩, s1, g1⟩
end Go.Proofs.Ythfanfnbjldddaa


/- The draw of a row: any right row. -/
namespace Go.Proofs.Ythfanfnbjldddaa
open Go.RowKit

/-- Some right row was drawn. -/
def RowPost (d s : Nat) (a : Option Addr) (n cap k : Nat) (zs : List Int) (w : World) (e : Ending) (w' : World) : Prop :=
  ∃ r : Ch.Row, ∃ k', r.fault = 0 ∧ 0 ≤ r.k ∧ r.k < 20 ∧ e = .returned (.agg #[.int .i64 r.k, .int .i64 r.v, .bool r.g]) ∧ k' = k + d ∧ Src w' s a n cap k' zs ∧ w.grownBy w' (some s)

theorem row3 {w : World} {b : Nat} {t : TypeId} {f : Nat × Nat} {c0 c1 c2 : Value} (h : w.heap[b]? = some (.cells #[c0, c1, c2] t f)) : w.cell? ⟨b, 0, none⟩ = some c0 ∧ w.cell? ⟨b, 1, none⟩ = some c1 ∧ w.cell? ⟨b, 2, none⟩ = some c2 :=
  ⟨cell_of_row _ _ _ _ _ _ h, cell_of_row _ _ _ _ _ _ h, cell_of_row _ _ _ _ _ _ h⟩
theorem frz3 {w : World} {b : Nat} {t : TypeId} {c0 c1 c2 : Value} (h : w.heap[b]? = some (.cells #[c0, c1, c2] t (0, 0))) : w.frozen? ⟨b, 0, none⟩ = false ∧ w.frozen? ⟨b, 1, none⟩ = false ∧ w.frozen? ⟨b, 2, none⟩ = false := by
  simp [World.frozen?, h]
theorem gr_set3 {w W : World} {row : Option Nat} {g : Nat} (h : w.grownBy W row) (hb : w.heap.size ≤ g) (v0 v1 v2 : Value) : w.grownBy (((W.setCell ⟨g, 0, none⟩ v0).setCell ⟨g, 1, none⟩ v1).setCell ⟨g, 2, none⟩ v2) row := gr_set' (gr_set' (gr_set' h hb) hb) hb
theorem Src.set3 {w : World} {s : Nat} {a : Option Addr} {n cap k : Nat} {zs : List Int} {g : Nat} (h : Src w s a n cap k zs) (hb : s < g) (v0 v1 v2 : Value) : Src (((w.setCell ⟨g, 0, none⟩ v0).setCell ⟨g, 1, none⟩ v1).setCell ⟨g, 2, none⟩ v2) s a n cap k zs := ((h.set hb).set hb).set hb
theorem Ch.drawn_right {k v : Int} (h0 : 0 ≤ k) (h1 : k < 20) (h2 : 0 ≤ v) (h3 : v < 50) : Ch.Row.fault ⟨k, v, false⟩ = 0 := by
  have a : Ch.inB k 0 99 = true := by unfold Ch.inB; simp; omega
  have b : Ch.inB v 0 9999 = true := by unfold Ch.inB; simp; omega
  simp [Ch.Row.fault, Ch.rowFault, a, b]
theorem Ch.drawn_ghost {k : Int} (h0 : 0 ≤ k) (h1 : k < 20) : Ch.Row.fault ⟨k, 0, true⟩ = 0 := by
  have a : Ch.inB k 0 99 = true := by unfold Ch.inB; simp; omega
  have b : Ch.inB 0 0 9999 = true := by decide
  simp [Ch.Row.fault, Ch.rowFault, a, b]

set_option linter.unusedSimpArgs false in
set_option maxHeartbeats 2000000 in
theorem l1Row_any (s : Nat) (a : Option Addr) (n cap k : Nat) (zs : List Int) (w : World) (h : Src w s a n cap k zs) (hb : IsB zs) (hn : n ≤ 1048580) (hk : k ≤ 900) :
    Calls Try.prog 150 #[.pointer (some ⟨s, 0, none⟩)] w (RowPost 3 s a n cap k zs w) := by
  have hsl := h.lt
  go_enter Try.func150, Try.ntmps150
  go_wp2_with fail
  refine (next_any 20 s a n cap k zs _ h.new hb hn (by omega) (by omega) (by omega)).mono ?_
  rintro e w1 ⟨⟨x, x0, x1, rfl⟩, s1, g1⟩
  have hR : w1.heap[w.heap.size]? = some (.cells #[.int .i64 0, .int .i64 0, .bool false] 105 (0, 0)) := gr_heap g1 (heap_alloc_new w _) (by simp; omega)
  have G := gr_alloc g1
  go_wp2_with fail
  refine (next_any 50 s a n cap (k + 1) zs _ s1 hb hn (by omega) (by omega) (by omega)).mono ?_
  rintro e w2 ⟨⟨v, v0, v1, rfl⟩, s2, g2⟩
  have hR := gr_heap g2 hR (by simp; omega)
  have G := gr_trans G g2
  have hz2 := G.size
  have hRX : w.heap.size < w2.heap.size := (Array.getElem?_eq_some_iff.1 hR).1
  clear s1 g1 g2
  go_wp2_with fail
  refine (chance_any 5 s a n cap (k + 1 + 1) zs _ s2.new hb hn (by omega) (by omega) (by omega)).mono ?_
  rintro e w3 ⟨⟨c, rfl⟩, s3, g3⟩
  have hX : w3.heap[w2.heap.size]? = some (.cells #[.int .i64 x, .int .i64 v, .bool false] 105 (0, 0)) := gr_heap g3 (heap_alloc_new w2 _) (by simp; omega)
  have hR := gr_heap g3 ((Below.heap_alloc w2 _ _ hRX).trans hR) (by simp; omega)
  have G := gr_trans G (gr_alloc g3)
  obtain ⟨p0, p1, p2⟩ := row3 hX
  obtain ⟨e0, e1, e2⟩ := frz3 hX
  obtain ⟨r0, r1, r2⟩ := row3 hR
  obtain ⟨f0, f1, f2⟩ := frz3 hR
  have lX := lt_of_cell p0
  have lR := lt_of_cell r0
  generalize w2.heap.size = X at *
  clear g3 s2 hX
  cases c with
  | false =>
    go_wp2
    exact bodyPost_ret (v := .agg #[.int .i64 x, .int .i64 v, .bool false]) (by simp [results, Try.results150, go_sem, r0, r1, r2]) rfl ⟨⟨x, v, false⟩, k + 1 + 1 + 1, Ch.drawn_right x0 x1 v0 v1, x0, x1, rfl, rfl, s3.set3 (by omega) _ _ _, gr_set3 G (Nat.le_refl _) _ _ _⟩
  | true =>
    go_wp2
    exact bodyPost_ret (v := .agg #[.int .i64 x, .int .i64 0, .bool true]) (by simp [results, Try.results150, go_sem, r0, r1, r2]) rfl ⟨⟨x, 0, true⟩, k + 1 + 1 + 1, Ch.drawn_ghost x0 x1, x0, x1, rfl, rfl, Src.set3 ((s3.set (by omega)).set (by omega)) (by omega) _ _ _, gr_set3 (gr_set' (gr_set' G (by omega)) (by omega)) (Nat.le_refl _) _ _ _⟩
end Go.Proofs.Ythfanfnbjldddaa


/- The draw of right leaves. -/
namespace Go.Proofs.Ythfanfnbjldddaa
open Go.RowKit

theorem OwnLv.grown {w w' : World} {B s n : Nat} {v : Value} {ls : List (List Ch.Row)} (h : OwnLv w B v n ls) (hg : w.grownBy w' (some s)) (hs : s < B) : OwnLv w' B v n ls := by
  obtain ⟨hl, vs, ho, hi, hd, hd'⟩ := h
  refine ⟨hl, vs, owns_grown ho hg (fun g hg' e => by have := (owns_lt ho g hg').1; simp at e; omega), fun i hlt => ?_, hd, hd'⟩
  obtain ⟨x, h1, h2⟩ := hi i hlt
  exact ⟨x, h1, owns_grown h2 hg (fun g hg' e => by have := (owns_lt h2 g hg').1; simp at e; omega)⟩
theorem Ch.good_sizeD {ls : List (List Ch.Row)} (h : Ch.leavesFault ls = 0) : Ch.lvSize ls ≤ 1048576 := by
  have hg := (Ch.good_iff ls).1 h
  have := Ch.sum_le ls 4 (fun x hx => (hg.2.1 x hx).2)
  unfold Ch.lvSize
  omega
theorem Ch.put_len1 (ls : List (List Ch.Row)) (r : Ch.Row) : (Ch.put ls r).length ≤ ls.length + 1 := by
  unfold Ch.put
  split
  · simp
  · have hp := Ch.forAt_lt (ls := ls) (key := r.k) (k := ls.length) (by omega)
    have := Ch.halves_len (Ch.into r (ls.getD (Ch.forAt ls r.k ls.length) []))
    simp only [List.length_append, List.length_take, List.length_drop]
    omega
theorem Ch.drop_len (ls : List (List Ch.Row)) (key : Int) : (Ch.drop ls key).length ≤ ls.length := by
  have h1 := List.length_filter_le Ch.full (ls.map (List.filter (Ch.notK key)))
  rw [List.length_map] at h1
  exact h1

/-- Some right leaves were drawn. -/
def LvPost (q d s : Nat) (a : Option Addr) (n cap k : Nat) (zs : List Int) (w : World) (e : Ending) (w' : World) : Prop :=
  ∃ ls a' m c' k', Ch.leavesFault ls = 0 ∧ ls.length ≤ q ∧ e = .returned (.slice a' m c') ∧ OwnLv w' w.heap.size (.slice a' m c') m ls ∧ k' ≤ k + d ∧ Src w' s a n cap k' zs ∧ w.grownBy w' (some s)

set_option maxHeartbeats 4000000 in
theorem l3Right_any (s : Nat) (a : Option Addr) (n cap k : Nat) (zs : List Int) (w : World) (h : Src w s a n cap k zs) (hb : IsB zs) (hn : n ≤ 1048580) (hk : k ≤ 700) :
    Calls Try.prog 127 #[.pointer (some ⟨s, 0, none⟩)] w (LvPost 20 120 s a n cap k zs w) := by
  have hsl := h.lt
  have o0 := empty_leaves w w.heap.size (Nat.le_refl _)
  have O0 : OwnLv (w.alloc (.cells #[] 107)) w.heap.size (.slice (some ⟨w.heap.size, 0, none⟩) 0 0) 0 [] := ⟨rfl, [], o0, fun i hi => absurd hi (by omega), fun i j x y g _ hx => by simp at hx, fun i x g hx => by simp at hx⟩
  clear o0
  go_enter Try.func127, Try.ntmps127
  go_wp2_with fail
  refine (next_any 20 s a n cap k zs _ h.new hb hn (by omega) (by omega) (by omega)).mono ?_
  rintro e w1 ⟨⟨x, x0, x1, rfl⟩, s1, g1⟩
  have O1 := O0.grown g1 hsl
  have G1 := gr_alloc g1
  obtain ⟨j0, rfl⟩ : ∃ j0 : Nat, x = (j0 : Int) := ⟨x.toNat, by omega⟩
  clear O0 g1
  go_wp2
  go_loopw [3, 4] (fun q i wr => ∃ (j m : Nat) (a' : Option Addr) (c' k' : Nat) (ls : List (List Ch.Row)), j ≤ 19 ∧ i = .int .i64 j ∧ q = .slice a' m c' ∧ OwnLv wr w.heap.size (.slice a' m c') m ls ∧ Hid (Ch.leavesFault ls = 0) ∧ ls.length + j ≤ 20 ∧ k' + 5 * j ≤ k + 100 ∧ Src wr s a n cap k' zs ∧ w.grownBy wr (some s)) (fun _ i _ => (intOf i).toNat)
  case atStart => exact ⟨j0, 0, _, _, k + 1, [], by omega, rfl, rfl, O1, (by decide : Ch.leavesFault [] = 0), by simp; omega, by omega, s1, G1⟩
  case round =>
    clear O1 s1 G1
    obtain ⟨j, m, a', c', k', ls, hj, rfl, rfl, own, HG, hlen, hkk, sr, G⟩ := hrel
    have hzw := G.size
    by_cases hlt : 0 < j
    · have hji : (j : Int) > 0 := by omega
      go_wp2_with fail
      refine (l1Row_any s a n cap k' zs _ sr hb hn (by omega)).mono ?_
      rintro e w2 ⟨⟨rk, rv, rg⟩, k2, hrf, _, _, rfl, hk2, s2, g2⟩
      have own2 := own.grown g2 hsl
      have G2 := gr_trans G g2
      have hz2 := G2.size
      have HP := hid (Ch.put_good HG.out hrf (by have := Ch.put_len1 ls ⟨rk, rv, rg⟩; omega))
      have HPl := hid (Ch.put_len1 ls ⟨rk, rv, rg⟩)
      clear own sr g2 hrf
      go_wp2_with fail
      refine (specPut_any a' m c' ls rk rv rg _ (own2.at (small_at (Ch.good_sizeD HG.out))) (Ch.good_sizeD HG.out) HG.out).mono ?_
      rintro e w3 ⟨a3, m3, c3, rfl, own3, b3⟩
      have own3 := own3.base (B' := w.heap.size) (by omega)
      have s3 := s2.below (B := w2.heap.size) b3 s2.lt
      have G3 := gr_on G2 (b3.mono hz2)
      have hz3 := G3.size
      generalize Ch.put ls ⟨rk, rv, rg⟩ = ls3 at *
      clear own2 s2 b3 G2 HG
      go_wp2_with fail
      refine (chance_any 5 s a n cap k2 zs _ s3 hb hn (by omega) (by omega) (by omega)).mono ?_
      rintro e w4 ⟨⟨c, rfl⟩, s4, g4⟩
      have own4 := own3.grown g4 hsl
      have G4 := gr_trans G3 g4
      have hz4 := G4.size
      clear own3 s3 g4 G3
      have HPl' := HPl.out
      cases c with
      | false =>
        go_wp2
        go_roundw
        case rel => exact ⟨j - 1, m3, a3, c3, k2 + 1, ls3, by omega, by first | go_num | (simp; omega), rfl, own4, HP, by omega, by omega, s4, G4⟩
        case measure => simp [intOf]; omega
      | true =>
        go_wp2_with fail
        refine (next_any 20 s a n cap (k2 + 1) zs _ s4 hb hn (by omega) (by omega) (by omega)).mono ?_
        rintro e w5 ⟨⟨y, y0, y1, rfl⟩, s5, g5⟩
        have own5 := own4.grown g5 hsl
        have G5 := gr_trans G4 g5
        have hz5 := G5.size
        have HD := hid (Ch.drop_good HP.out y)
        have HDl := Ch.drop_len ls3 y
        clear own4 s4 g5
        go_wp2_with fail
        refine (specDrop_any a3 m3 c3 y ls3 _ (own5.at (small_at (Ch.good_sizeD HP.out))) (Ch.good_sizeD HP.out)).mono ?_
        rintro e w6 ⟨a6, m6, c6, rfl, own6, b6⟩
        have own6 := own6.base (B' := w.heap.size) (by omega)
        have s6 := s5.below (B := w5.heap.size) b6 s5.lt
        have G6 := gr_on G5 (b6.mono hz5)
        generalize Ch.drop ls3 y = ls6 at *
        go_wp2
        go_roundw
        case rel => exact ⟨j - 1, m6, a6, c6, k2 + 1 + 1, ls6, by omega, by first | go_num | (simp; omega), rfl, own6, HD, by omega, by omega, s6, G6⟩
        case measure => simp [intOf]; omega
    · obtain rfl : j = 0 := by omega
      go_wp2
      go_ret
      exact ⟨ls, a', m, c', k', HG.out, by omega, rfl, own, by omega, sr, G⟩
end Go.Proofs.Ythfanfnbjldddaa

