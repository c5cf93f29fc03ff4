
/- The draws: the source of numbers, and what is drawn out of it (any numbers within their bounds). -/
import Derived.Test.YtmolddlmjojceaaSmall
namespace Go.Proofs.Ytmolddlmjojceaa
open Go.RowKit

/-- The source: its box holds the bytes and how many numbers were drawn; the bytes lie elsewhere. -/
structure Src (w : World) (s : Nat) (a : Option Addr) (n cap k : Nat) (zs : List Int) : Prop where
  box : w.heap[s]? = some (.cells #[.slice a n cap, .int .i64 k] 62 (0, 0))
  far : 0 < n → ∀ b off, a = some ⟨b, off, none⟩ → b < s
  bytes : CellsAt w a n (bts zs)

theorem Src.lt {w : World} {s : Nat} {a : Option Addr} {n cap k : Nat} {zs : List Int} (h : Src w s a n cap k zs) : s < w.heap.size := (Array.getElem?_eq_some_iff.1 h.box).1

theorem Src.grown {w w' : World} {s : Nat} {a : Option Addr} {n cap k : Nat} {zs : List Int} {row : Option Nat} (h : Src w s a n cap k zs) (hg : w.grownBy w' row) (hr : ∀ r, row = some r → s < r) : Src w' s a n cap k zs := by
  refine ⟨?_, h.far, h.bytes.1, fun hm => ?_⟩
  · rw [hg.block s h.lt (fun e => by have := hr s e.symm; omega)]; exact h.box
  · obtain ⟨b, off, ha, hc⟩ := h.bytes.2 hm
    have hbs := h.far hm b off ha
    refine ⟨b, off, ha, fun i hi => ?_⟩
    rw [← hc i hi]
    exact World.grownBy.cell_far hg ⟨b, off + i, none⟩ (Nat.lt_trans hbs h.lt) (fun e => by have := hr b e.symm; omega)

theorem Src.below {w w' : World} {s B : Nat} {a : Option Addr} {n cap k : Nat} {zs : List Int} (h : Src w s a n cap k zs) (hb : Below B w w') (hB : s < B) : Src w' s a n cap k zs := by
  refine ⟨by rw [hb.block s hB]; exact h.box, h.far, h.bytes.1, fun hm => ?_⟩
  obtain ⟨b, off, ha, hc⟩ := h.bytes.2 hm
  refine ⟨b, off, ha, fun i hi => ?_⟩
  rw [← hc i hi]
  exact hb.cell (p := ⟨b, off + i, none⟩) (by have := h.far hm b off ha; show b < B; omega)

theorem Src.step {w : World} {s : Nat} {a : Option Addr} {n cap k : Nat} {zs : List Int} (h : Src w s a n cap k zs) {i : Int} (hi : i = (k : Int) + 1) : Src (w.setCell ⟨s, 1, none⟩ (.int .i64 i)) s a n cap (k + 1) zs := by
  subst hi
  refine ⟨?_, h.far, h.bytes.1, fun hm => ?_⟩
  · simp only [World.setCell, Array.getElem?_modify, if_true, h.box]
    simp
  · obtain ⟨b, off, ha, hc⟩ := h.bytes.2 hm
    refine ⟨b, off, ha, fun i hi => ?_⟩
    rw [← hc i hi]
    exact World.cell?_of_block (Below.heap_setCell _ _ _ _ (by have := h.far hm b off ha; show b ≠ s; omega))

theorem Src.drewN {w : World} {s : Nat} {a : Option Addr} {n cap k : Nat} {zs : List Int} (h : Src w s a n cap k zs) (q : Nat) : Src (w.drewN q) s a n cap k zs := ⟨h.box, h.far, h.bytes⟩

theorem gr_set {w : World} {s o : Nat} {v : Value} : w.grownBy (w.setCell ⟨s, o, none⟩ v) (some s) := ⟨rfl, rfl, rfl, by simp [World.setCell], fun k _ hne => Below.heap_setCell _ _ _ _ (by intro e; exact hne (by rw [e]))⟩

theorem gr_drewN {w w' : World} {row : Option Nat} (h : w.grownBy w' row) (q : Nat) : w.grownBy (w'.drewN q) row := ⟨h.os, h.tape, h.output, h.size, h.block⟩

theorem gr_below {w w' : World} (h : Below w.heap.size w w') (row : Option Nat) : w.grownBy w' row := ⟨h.os, h.tape, h.output, h.size, fun k hk _ => h.block k hk⟩

theorem below_gr {w w' : World} {s B : Nat} (h : w.grownBy w' (some s)) (hB : B ≤ s) (hB' : B ≤ w.heap.size) : Below B w w' :=
  ⟨h.os, h.tape, h.output, h.size, fun k hk => h.block k (by omega) (by intro e; simp only [Option.some.injEq] at e; omega)⟩

set_option maxHeartbeats 1000000 in
theorem next_any (N : Int) (s : Nat) (a : Option Addr) (n cap k : Nat) (zs : List Int) (w : World) (h : Src w s a n cap k zs) (hb : IsB zs) (hn : n ≤ 1048580) (hk : k ≤ 1000) (h1 : 1 ≤ N) (h2 : N ≤ 256) :
    Calls Try.prog 26 #[.pointer (some ⟨s, 0, none⟩), .int .i64 N] w fun e w' => (∃ v : Int, 0 ≤ v ∧ v < N ∧ e = .returned (.int .i64 v)) ∧ Src w' s a n cap (k + 1) zs ∧ w.grownBy w' (some s) := by
  have hS := h.step (i := (k : Int) + 1) rfl
  have q0 : w.cell? ⟨s, 0, none⟩ = some (.slice a n cap) := cell_of_row _ _ _ _ _ _ h.box
  have q1 : w.cell? ⟨s, 1, none⟩ = some (.int .i64 k) := cell_of_row _ _ _ _ _ _ h.box
  have hfz : w.frozen? ⟨s, 1, none⟩ = false := by simp [World.frozen?, h.box]
  have hgr : w.grownBy (w.setCell ⟨s, 1, none⟩ (.int .i64 ((k : Int) + 1))) (some s) := gr_set
  have hlt1 : ¬ N < 1 := by omega
  by_cases h0 : n = 0
  · subst h0
    have m0 : 0 ≤ ((k : Int) * 7) % N := Int.emod_nonneg _ (by omega)
    have m1 : ((k : Int) * 7) % N < N := Int.emod_lt_of_pos _ (by omega)
    go_enter Try.func26, Try.ntmps26
    go_wp2
    go_ret
    exact ⟨⟨_, m0, m1, rfl⟩, hS, hgr⟩
  · obtain ⟨j, hj, hjn⟩ : ∃ j : Nat, (k : Int) % (n : Int) = j ∧ j < n := ⟨k % n, by simp, Nat.mod_lt _ (by omega)⟩
    obtain ⟨j', hj', hjn'⟩ : ∃ j : Nat, ((k : Int) + 1) % (n : Int) = j ∧ j < n := ⟨(k + 1) % n, by simp, Nat.mod_lt _ (by omega)⟩
    obtain ⟨p, hp, hpk⟩ : ∃ p : Nat, (k : Int) / (n : Int) = p ∧ p ≤ k := ⟨k / n, by simp, Nat.div_le_self _ _⟩
    obtain ⟨b, off, rfl, hc⟩ := h.bytes.at hjn
    obtain ⟨b', off', hbo, hc'⟩ := h.bytes.at hjn'
    simp only [Option.some.injEq, Addr.mk.injEq, and_true] at hbo
    obtain ⟨rfl, rfl⟩ := hbo
    obtain ⟨x0, x1⟩ := hb j
    obtain ⟨y0, y1⟩ := hb j'
    generalize zs.getD j 0 = x at *
    generalize zs.getD j' 0 = y at *
    have hfar : b ≠ s := by have := h.far (by omega) _ _ rfl; omega
    have hn0 : ((n : Int) == 0) = false := by simpa using h0
    have hn1 : (n : Int) ≠ 0 := by omega
    by_cases hN : 200 < N
    · have m0 : 0 ≤ ((x + (p : Int) * 37) * 251 + y * 13 + k) % N := Int.emod_nonneg _ (by omega)
      have m1 : ((x + (p : Int) * 37) * 251 + y * 13 + k) % N < N := Int.emod_lt_of_pos _ (by omega)
      go_enter Try.func26, Try.ntmps26
      go_wp2
      go_quiet (fail)
      go_wp2
      go_quiet (fail)
      go_wp2
      go_ret
      exact ⟨⟨_, m0, m1, rfl⟩, hS.drewN _, gr_drewN hgr _⟩
    · have m0 : 0 ≤ (x + (p : Int) * 37) % N := Int.emod_nonneg _ (by omega)
      have m1 : (x + (p : Int) * 37) % N < N := Int.emod_lt_of_pos _ (by omega)
      go_enter Try.func26, Try.ntmps26
      go_wp2
      go_quiet (fail)
      go_wp2
      go_ret
      exact ⟨⟨_, m0, m1, rfl⟩, hS.drewN _, gr_drewN hgr _⟩

theorem gr_set' {w w' : World} {row : Option Nat} {b o : Nat} {v : Value} (h : w.grownBy w' row) (hb : w.heap.size ≤ b) : w.grownBy (w'.setCell ⟨b, o, none⟩ v) row :=
  ⟨h.os, h.tape, h.output, by have := h.size; simpa [World.setCell] using this, fun k hk hne => (Below.heap_setCell _ _ _ _ (by show k ≠ b; omega)).trans (h.block k hk hne)⟩

theorem gr_new {w w' : World} {row : Option Nat} {o : Obj} (h : w.grownBy w' row) : w.grownBy (w'.alloc o) row :=
  ⟨h.os, h.tape, h.output, by have := h.size; simp; omega, fun k hk hne => (Below.heap_alloc _ _ _ (by have := h.size; omega)).trans (h.block k hk hne)⟩

theorem Src.set {w : World} {s : Nat} {a : Option Addr} {n cap k : Nat} {zs : List Int} {b o : Nat} {v : Value} (h : Src w s a n cap k zs) (hb : s < b) : Src (w.setCell ⟨b, o, none⟩ v) s a n cap k zs :=
  h.below (B := b) ((Below.refl _ _).setCell (p := ⟨b, o, none⟩) (Nat.le_refl _) _) hb

theorem Src.new {w : World} {s : Nat} {a : Option Addr} {n cap k : Nat} {zs : List Int} {o : Obj} (h : Src w s a n cap k zs) : Src (w.alloc o) s a n cap k zs :=
  h.below (B := w.heap.size) ((Below.refl _ _).alloc (Nat.le_refl _) _) h.lt

theorem gr_heap {w w' : World} {row : Option Nat} {b : Nat} {o : Obj} (hg : w.grownBy w' row) (h : w.heap[b]? = some o) (hne : row ≠ some b) : w'.heap[b]? = some o :=
  (hg.block b (Array.getElem?_eq_some_iff.1 h).1 (fun e => hne e.symm)).trans h

theorem frz_of {w : World} {b o : Nat} {c : Array Value} {t : TypeId} (h : w.heap[b]? = some (.cells c t (0, 0))) : w.frozen? ⟨b, o, none⟩ = false := by simp [World.frozen?, h]

theorem source_any (a : Option Addr) (n cap : Nat) (zs : List Int) (w : World) (h : CellsAt w a n (bts zs)) :
    Calls Try.prog 23 #[.slice a n cap] w fun e w' => e = .returned (.pointer (some ⟨w.heap.size, 0, none⟩)) ∧ Src w' w.heap.size a n cap 0 zs ∧ Below w.heap.size w w' := by
  have b0 : Below w.heap.size w (w.alloc (.cells #[.slice a n cap, .int .i64 0] 62)) := (Below.refl _ _).alloc (Nat.le_refl _) _
  go_enter Try.func23, Try.ntmps23
  go_wp2
  go_ret
  refine ⟨rfl, ⟨heap_alloc_new w _, fun hn b off ha => ?_, h.below b0⟩, b0⟩
  subst ha
  obtain ⟨b', off', hb, hc⟩ := h.at hn
  simp only [Option.some.injEq, Addr.mk.injEq, and_true] at hb
  obtain ⟨rfl, rfl⟩ := hb
  exact lt_of_cell hc

theorem gr_on {w w' w'' : World} {row : Option Nat} (h : w.grownBy w' row) (hb : Below w.heap.size w' w'') : w.grownBy w'' row :=
  ⟨hb.os.trans h.os, hb.tape.trans h.tape, hb.output.trans h.output, Nat.le_trans h.size hb.size, fun k hk hne => (hb.block k hk).trans (h.block k hk hne)⟩

theorem big_any (a : Option Addr) (n cap : Nat) (w : World) :
    Calls Try.prog 4 #[.slice a n cap] w fun e w' => e = .returned (.bool (decide ((1048576 : Int) < n))) ∧ w' = w := by
  go_enter Try.func4, Try.ntmps4
  go_wp2
  go_ret
  exact ⟨rfl, rfl⟩

set_option maxHeartbeats 1000000 in
theorem pick_any (g m : Nat) (us : List Int) (s : Nat) (a : Option Addr) (n cap k : Nat) (zs : List Int) (w : World) (h : Src w s a n cap k zs) (hb : IsB zs) (hn : n ≤ 1048580) (hk : k ≤ 1000)
    (hg : w.heap[g]? = some (.cells (us.map (Value.int .i64)).toArray 2 (0, 0))) (hs : g ≠ s) (hm : us.length = m) (h1 : 1 ≤ m) (h2 : m ≤ 256) :
    Calls Try.prog 25 #[.pointer (some ⟨s, 0, none⟩), .slice (some ⟨g, 0, none⟩) m m] w fun e w' => (∃ v : Int, v ∈ us ∧ e = .returned (.int .i64 v)) ∧ Src w' s a n cap (k + 1) zs ∧ w.grownBy w' (some s) := by
  go_enter Try.func25, Try.ntmps25
  go_wp2_with fail
  refine (next_any (m : Int) s a n cap k zs w h hb hn hk (by omega) (by omega)).mono ?_
  rintro e w1 ⟨⟨v, v0, v1, rfl⟩, s1, g1⟩
  obtain ⟨j, rfl⟩ : ∃ j : Nat, v = (j : Int) := ⟨v.toNat, by omega⟩
  have hj : j < us.length := by omega
  have q := gr_heap g1 hg (by simp; omega)
  have q0 : w1.cell? ⟨g, j, none⟩ = some (.int .i64 us[j]) := by
    rw [cell_of_row _ _ _ _ _ _ q]
    simp [hj]
  have hmem : us[j] ∈ us := List.getElem_mem hj
  generalize us[j] = x at *
  go_wp2
  go_ret
  exact ⟨⟨x, hmem, rfl⟩, s1, g1⟩
end Go.Proofs.Ytmolddlmjojceaa
