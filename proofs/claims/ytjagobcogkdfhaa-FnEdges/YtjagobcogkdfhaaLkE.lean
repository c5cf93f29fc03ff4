
/- The program: who leaves a lock, who holds it then. -/
import Derived.Test.YtjagobcogkdfhaaLkD
import Derived.Test.YtjagobcogkdfhaaLkEM
namespace Go.Proofs.Ytjagobcogkdfhaa
open Go.RowKit

theorem new_hold (w : World) (t m : Int) (ty : TypeId) : CellsAt (w.alloc (.cells #[.int .i64 t, .int .i64 m] ty)) (some ⟨w.heap.size, 0, none⟩) (1 * 2) (hcells [⟨t, m⟩]) := by
  refine ⟨rfl, fun _ => ⟨_, _, rfl, fun i hi => ?_⟩⟩
  rw [Nat.zero_add]
  have := cell_of_row (w.alloc (.cells #[.int .i64 t, .int .i64 m] ty)) _ i _ _ _ (heap_alloc_new w _)
  rw [this]
  simp [hcells]

/-- Only blocks of the locks are written; new ones are new. -/
structure Moved (v : Value) (vs vs' : List (Value × Value)) (w w' : World) : Prop where
  os : w'.os = w.os
  tape : w'.tape = w.tape
  output : w'.output = w.output
  size : w.heap.size ≤ w'.heap.size
  block : ∀ g, g < w.heap.size → g ∉ v.ownBlock.toList ++ vs.flatMap blks → w'.heap[g]? = w.heap[g]?
  new : ∀ g ∈ vs'.flatMap blks, g ∈ vs.flatMap blks ∨ w.heap.size ≤ g
theorem Moved.refl (v : Value) (vs : List (Value × Value)) (w : World) : Moved v vs vs w w := ⟨rfl, rfl, rfl, Nat.le_refl _, fun _ _ _ => rfl, fun _ h => .inl h⟩
theorem Moved.trans {v : Value} {vs vs1 vs2 : List (Value × Value)} {a b c : World} (h : Moved v vs vs1 a b) (k : Moved v vs1 vs2 b c) : Moved v vs vs2 a c := by
  refine ⟨k.os.trans h.os, k.tape.trans h.tape, k.output.trans h.output, Nat.le_trans h.size k.size, fun g hg hn => ?_, fun g hg => ?_⟩
  · refine (k.block g (Nat.lt_of_lt_of_le hg h.size) fun hm => ?_).trans (h.block g hg hn)
    rw [List.mem_append] at hm hn
    rcases hm with hm | hm
    · exact hn (.inl hm)
    · rcases h.new g hm with h1 | h1
      · exact hn (.inr h1)
      · omega
  · rcases k.new g hg with h1 | h1
    · exact h.new g h1
    · have := h.size; exact .inr (by omega)
theorem Moved.below {v : Value} {vs vs' : List (Value × Value)} {w w' : World} {T : TypeId} {B n : Nat} {ls : List Ch.Lock} (h : Moved v vs vs' w w') (own : OwnK T w B v n ls vs) (hB : B ≤ w.heap.size) : Below B w w' := by
  refine ⟨h.os, h.tape, h.output, h.size, fun g hg => h.block g (by omega) fun hm => ?_⟩
  rw [List.mem_append] at hm
  rcases hm with hm | hm
  · have := (owns_lt own.row g (by simpa using hm)).1; omega
  · obtain ⟨i, q, hq, hgq⟩ := flat_mem hm
    have := (own.bd hq hgq).1; omega
theorem Moved.ofBelow {v : Value} {vs : List (Value × Value)} {w w' : World} (h : Below w.heap.size w w') : Moved v vs vs w w' := ⟨h.os, h.tape, h.output, h.size, fun g hg _ => h.block g hg, fun _ h => .inl h⟩
/-- Another row that is apart stays as it is, and apart. -/
theorem Moved.owns {v : Value} {vs vs' : List (Value × Value)} {w w' : World} (h : Moved v vs vs' w w') {base : Nat} {e : TypeId} {size : Nat} {z : Value} {n : Nat} {xs : List Value} (ho : w.ownsRow base e size z n xs) (ha : ∀ g, z.ownBlock = some g → g ∉ v.ownBlock.toList ++ vs.flatMap blks) :
    w'.ownsRow base e size z n xs ∧ ∀ g, z.ownBlock = some g → g ∉ v.ownBlock.toList ++ vs'.flatMap blks := by
  refine ⟨⟨ho.1, ?_⟩, fun g hg hm => ?_⟩
  · rcases ho.2 with h' | ⟨g, cap, cur, hv, hb, hh, h1, h2, h3, h4⟩
    · exact .inl h'
    · refine .inr ⟨g, cap, cur, hv, hb, ?_, h1, h2, h3, h4⟩
      have hlt := (owns_lt ho g (by rw [hv]; rfl)).2
      rw [h.block g hlt (ha g (by rw [hv]; rfl))]; exact hh
  · have hlt := (owns_lt ho g hg).2
    have hn := ha g hg
    rw [List.mem_append] at hm hn
    rcases hm with hm | hm
    · exact hn (.inl hm)
    · rcases h.new g hm with h1 | h1
      · exact hn (.inr h1)
      · omega
theorem Moved.cell {v : Value} {vs vs' : List (Value × Value)} {w w' : World} (h : Moved v vs vs' w w') {b o : Nat} {u : Value} (hc : w.cell? ⟨b, o, none⟩ = some u) (ha : b ∉ v.ownBlock.toList ++ vs.flatMap blks) : w'.cell? ⟨b, o, none⟩ = some u :=
  (World.cell?_of_block (a := ⟨b, o, none⟩) (h.block b (lt_of_cell hc) ha)).trans hc
theorem moved_grown {v : Value} {vs vs' : List (Value × Value)} {k : Nat} {p p' : Value × Value} {w w' : World} {row : Option Nat} (hp : vs[k]? = some p) (hvs : vs' = vs.set k p') (gr : w.grownBy w' row) (hrow : ∀ g, row = some g → g ∈ v.ownBlock.toList ++ blks p) (hf : ∀ g ∈ blks p', g ∈ blks p ∨ w.heap.size ≤ g) : Moved v vs vs' w w' := by
  have hin : ∀ g ∈ blks p, g ∈ vs.flatMap blks := fun g hg => List.mem_flatMap.2 ⟨p, List.mem_of_getElem? hp, hg⟩
  refine ⟨gr.os, gr.tape, gr.output, gr.size, fun g hg hn => gr.block g hg fun e => ?_, fun g hg => ?_⟩
  · have := hrow g e.symm
    rw [List.mem_append] at this hn
    rcases this with h1 | h1
    · exact hn (.inl h1)
    · exact hn (.inr (hin g h1))
  · subst hvs
    obtain ⟨i, q, hq, hgq⟩ := flat_mem hg
    by_cases hik : k = i
    · subst hik
      have hk : k < vs.length := (List.getElem?_eq_some_iff.1 hp).1
      rw [List.getElem?_set_self hk] at hq
      cases hq
      rcases hf g hgq with h1 | h1
      · exact .inl (hin g h1)
      · exact .inr h1
    · rw [List.getElem?_set_ne hik] at hq
      exact .inl (List.mem_flatMap.2 ⟨q, List.mem_of_getElem? hq, hgq⟩)
/-- One lock of one's own, read at its place. -/
theorem OwnK.one {T : TypeId} {w : World} {B n o cap : Nat} {ls : List Ch.Lock} {vs : List (Value × Value)} (h : OwnK T w B (.slice (some ⟨o, 0, none⟩) n cap) n ls vs) {k : Nat} (hk : k < n) :
    ∃ ah ch aq cq, vs[k]? = some (.slice ah (Ch.lkAt ls k).hs.length ch, .slice aq (Ch.lkAt ls k).qs.length cq) ∧ w.cell? ⟨o, k * 3, none⟩ = some (.int .i64 (Ch.lkAt ls k).r) ∧ w.cell? ⟨o, k * 3 + 1, none⟩ = some (.slice ah (Ch.lkAt ls k).hs.length ch) ∧ w.cell? ⟨o, k * 3 + 2, none⟩ = some (.slice aq (Ch.lkAt ls k).qs.length cq) ∧
      w.frozen? ⟨o, k * 3 + 1, none⟩ = false ∧ w.frozen? ⟨o, k * 3 + 2, none⟩ = false ∧ w.ownsRow B 131 2 (.slice ah (Ch.lkAt ls k).hs.length ch) (Ch.lkAt ls k).hs.length (hcells (Ch.lkAt ls k).hs) ∧ w.ownsRow B 131 2 (.slice aq (Ch.lkAt ls k).qs.length cq) (Ch.lkAt ls k).qs.length (hcells (Ch.lkAt ls k).qs) ∧
      (∀ g, (Value.slice ah (Ch.lkAt ls k).hs.length ch).ownBlock = some g → (Value.slice aq (Ch.lkAt ls k).qs.length cq).ownBlock ≠ some g) ∧ o ∉ blks (.slice ah (Ch.lkAt ls k).hs.length ch, .slice aq (Ch.lkAt ls k).qs.length cq) ∧ B ≤ o ∧ o < w.heap.size := by
  obtain ⟨p, hp⟩ := h.got hk
  have hat := lcells_at (ls := ls) (by rw [h.len, h.vlen]) hp
  have o1 := h.hs k p hp
  have o2 := h.qs k p hp
  have ne := fun g hg => apart_one h.apart hp (g := g) hg
  have nr : o ∉ blks p := apart_row h.apart hp rfl
  obtain ⟨x, y⟩ := p
  obtain ⟨ah, ch, ex⟩ := owns_shape o1
  obtain ⟨aq, cq, ey⟩ := owns_shape o2
  simp only at ex ey o1 o2 hat ne
  subst ex ey
  have ob := owns_lt h.row o rfl
  exact ⟨ah, ch, aq, cq, hp, (h.row.cellAt (k * 3) (by omega)).trans hat.1, (h.row.cellAt (k * 3 + 1) (by omega)).trans hat.2.1, (h.row.cellAt (k * 3 + 2) (by omega)).trans hat.2.2, h.row.frozenAt _, h.row.frozenAt _, o1, o2, ne, nr, ob.1, ob.2⟩

theorem moved_two {v : Value} {vs vs' : List (Value × Value)} {k o : Nat} {p p' : Value × Value} {w w1 w' : World} {row : Option Nat} (hp : vs[k]? = some p) (hvs : vs' = vs.set k p') (gr : w.grownBy w1 row) (g2 : w1.grownBy w' (some o)) (hrow : ∀ g, row = some g → g ∈ blks p) (hv : v.ownBlock = some o) (hf : ∀ g ∈ blks p', g ∈ blks p ∨ w.heap.size ≤ g) : Moved v vs vs' w w' := by
  have m1 : Moved v vs (vs.set k p') w w1 := moved_grown hp rfl gr (fun g hg => List.mem_append.2 (.inr (hrow g hg))) hf
  subst hvs
  refine ⟨g2.os.trans m1.os, g2.tape.trans m1.tape, g2.output.trans m1.output, Nat.le_trans m1.size g2.size, fun g hg hn => ?_, m1.new⟩
  refine (g2.block g (Nat.lt_of_lt_of_le hg m1.size) fun e => ?_).trans (m1.block g hg hn)
  simp at e
  subst e
  exact hn (List.mem_append.2 (.inl (by simp [hv])))

end Go.Proofs.Ytjagobcogkdfhaa
