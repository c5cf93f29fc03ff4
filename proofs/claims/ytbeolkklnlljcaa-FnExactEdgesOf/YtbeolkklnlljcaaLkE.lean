
/- The program: who leaves a lock, who holds it then. -/
import Derived.Test.YtbeolkklnlljcaaLkD
import Derived.Test.YtbeolkklnlljcaaLkEM
namespace Go.Proofs.Ytbeolkklnlljcaa
open Go.RowKit

theorem new_hold (w : World) (t m : Int) (ty : TypeId) : CellsAt (w.alloc (.cells #[.int .i64 t, .int .i64 m] ty)) (some ⟨w.heap.size, 0, none⟩) (1 * 2) (hcells [⟨t, m⟩]) := by
  refine ⟨rfl, fun _ => ⟨_, _, rfl, fun i hi => ?_⟩⟩
  rw [Nat.zero_add]
  have := cell_of_row (w.alloc (.cells #[.int .i64 t, .int .i64 m] ty)) _ i _ _ _ (heap_alloc_new w _)
  rw [this]
  simp [hcells]

set_option maxHeartbeats 1000000 in
theorem without_any (a : Option Addr) (n cap : Nat) (t : Int) (hs : List Ch.Hold) (w : World) (h : CellsAt w a (n * 2) (hcells hs)) (hn : n ≤ 1048576) :
    Calls Try.prog 79 #[.slice a n cap, .int .i64 t] w fun e w' => ∃ a' c', e = .returned (.slice a' (Ch.withoutH hs t).length c') ∧ w'.ownsRow w.heap.size 120 2 (.slice a' (Ch.withoutH hs t).length c') (Ch.withoutH hs t).length (hcells (Ch.withoutH hs t)) ∧ Below w.heap.size w w' := by
  have HL := h.hlen
  obtain ⟨i0, hi0, hz0, hz1, hz2⟩ := info_parts Try.info120
  go_enter Try.func79, Try.ntmps79
  go_wp2
  go_loopw [5, 10] (fun q i wr => ∃ (k m : Nat) (a' : Option Addr) (c' : Nat), k ≤ n ∧ m ≤ k ∧ i = .int .i64 k ∧ q = .slice a' m c' ∧ wr.ownsRow w.heap.size 120 2 (.slice a' m c') m (hcells (Ch.withoutH (hs.take k) t)) ∧ Below w.heap.size w wr) (fun _ i _ => n - (intOf i).toNat)
  case atStart => exact ⟨0, 0, none, 0, Nat.zero_le _, Nat.le_refl _, rfl, rfl, World.ownsRow_nil _ _ _ _, Below.refl _ _⟩
  case round =>
    obtain ⟨k, m, a', c', hk, hmk, rfl, rfl, own, hB⟩ := hrel
    by_cases hlt : k < n
    · have hkl : k < hs.length := by have := HL.out; omega
      have HY := hid (fun he => Ch.without_yes (t := t) hkl he)
      have HN := hid (fun he => Ch.without_no (t := t) hkl he)
      obtain ⟨b, off, rfl, q0, q1⟩ := (h.below hB).hold hlt
      have hbl := lt_of_cell q0
      generalize hs.getD k Ch.Hold.zero = r at *
      obtain ⟨rt, rm⟩ := r
      simp only at q0 q1 HY HN
      generalize Ch.withoutH (hs.take k) t = zs at *
      have hsum : m + 1 ≤ 4194304 := by omega
      have kB : ∀ o, Below wr.heap.size wr (wr.alloc o) := fun o => (Below.refl _ _).alloc (Nat.le_refl _) o
      by_cases he : rt = t
      · subst he
        have hne : (rt != rt) = false := by simp
        go_wp2
        go_roundw
        case rel => exact ⟨k + 1, m, a', c', by omega, by omega, by go_num, rfl, by rw [HN.out (by simp)]; exact owns_below own (kB _), hB.alloc hB.size _⟩
        case measure => simp [intOf]; omega
      · have hne : (rt != t) = true := by simpa using he
        have k2 : Below wr.heap.size wr ((wr.alloc (.cells #[.int .i64 rt, .int .i64 rm] 120)).alloc (.cells #[.int .i64 rt, .int .i64 rm] 120)) := (kB _).alloc (by simp) _
        have own2 := owns_below own k2
        have hb2 : w.heap.size ≤ ((wr.alloc (.cells #[.int .i64 rt, .int .i64 rm] 120)).alloc (.cells #[.int .i64 rt, .int .i64 rm] 120)).heap.size := Nat.le_trans hB.size k2.size
        have hC : CellsAt ((wr.alloc (.cells #[.int .i64 rt, .int .i64 rm] 120)).alloc (.cells #[.int .i64 rt, .int .i64 rm] 120)) (some ⟨wr.heap.size + 1, 0, none⟩) (1 * 2) (hcells [⟨rt, rm⟩]) := by have := new_hold (wr.alloc (.cells #[.int .i64 rt, .int .i64 rm] 120)) rt rm 120; rwa [show (wr.alloc (.cells #[.int .i64 rt, .int .i64 rm] 120)).heap.size = wr.heap.size + 1 by simp] at this
        go_wp2_with (at_builtin; go_must (refine wpList_appX Try.underlying94 Try.underlying94 hi0 hz0 hz1 hz2 rfl (by omega) (by omega) (.tmp 18) (.tmp 20) ?_ ?_ w.heap.size (.slice a' m c') m (hcells zs) _ 1 1 (hcells [⟨rt, rm⟩]) ?_ ?_ own2 hC (hcells_one' _) hsum hb2 ?_; exact rfl; exact rfl; exact rfl; exact rfl; intro a5 c5 w5 own5 gr5 at5))
        go_roundw
        case rel =>
          rw [← hcells_append, ← HY.out he] at own5
          have b2 := hB.trans (k2.mono hB.size)
          exact ⟨k + 1, m + 1, a5, c5, by omega, by omega, by go_num, rfl, own5, b2.grown gr5 b2.size (fun g hg => (owns_lt own2 g hg).1)⟩
        case measure => simp [intOf]; omega
    · obtain rfl : k = n := by omega
      have HWF : Hid (hs.take k = hs) := by have := HL.out; show _ = _; rw [this]; exact List.take_length
      rw [HWF.out] at own
      have hm := (owns_hlen own).out
      subst hm
      go_wp2
      go_ret
      exact ⟨a', c', rfl, own, hB⟩

/-- Only blocks of the locks are written; new ones are new. -/
structure Moved (v : Value) (vs vs' : List (Value × Value)) (w w' : World) : Prop where
  os : w'.os = w.os
  tape : w'.tape = w.tape
  output : w'.output = w.output
  size : w.heap.size ≤ w'.heap.size
  block : ∀ g, g < w.heap.size → g ∉ v.ownBlock.toList ++ vs.flatMap blks → w'.heap[g]? = w.heap[g]?
  new : ∀ g ∈ vs'.flatMap blks, g ∈ vs.flatMap blks ∨ w.heap.size ≤ g
theorem Moved.refl (v : Value) (vs : List (Value × Value)) (w : World) : Moved v vs vs w w := ⟨rfl, rfl, rfl, Nat.le_refl _, fun _ _ _ => rfl, fun _ h => .inl h⟩
theorem Moved.trans {v : Value} {vs vs1 vs2 : List (Value × Value)} {a b c : World} (h : Moved v vs vs1 a b) (k : Moved v vs1 vs2 b c) : Moved v vs vs2 a c := by
  refine ⟨k.os.trans h.os, k.tape.trans h.tape, k.output.trans h.output, Nat.le_trans h.size k.size, fun g hg hn => ?_, fun g hg => ?_⟩
  · refine (k.block g (Nat.lt_of_lt_of_le hg h.size) fun hm => ?_).trans (h.block g hg hn)
    rw [List.mem_append] at hm hn
    rcases hm with hm | hm
    · exact hn (.inl hm)
    · rcases h.new g hm with h1 | h1
      · exact hn (.inr h1)
      · omega
  · rcases k.new g hg with h1 | h1
    · exact h.new g h1
    · have := h.size; exact .inr (by omega)
theorem Moved.below {v : Value} {vs vs' : List (Value × Value)} {w w' : World} {T : TypeId} {B n : Nat} {ls : List Ch.Lock} (h : Moved v vs vs' w w') (own : OwnK T w B v n ls vs) (hB : B ≤ w.heap.size) : Below B w w' := by
  refine ⟨h.os, h.tape, h.output, h.size, fun g hg => h.block g (by omega) fun hm => ?_⟩
  rw [List.mem_append] at hm
  rcases hm with hm | hm
  · have := (owns_lt own.row g (by simpa using hm)).1; omega
  · obtain ⟨i, q, hq, hgq⟩ := flat_mem hm
    have := (own.bd hq hgq).1; omega
theorem Moved.ofBelow {v : Value} {vs : List (Value × Value)} {w w' : World} (h : Below w.heap.size w w') : Moved v vs vs w w' := ⟨h.os, h.tape, h.output, h.size, fun g hg _ => h.block g hg, fun _ h => .inl h⟩
/-- Another row that is apart stays as it is, and apart. -/
theorem Moved.owns {v : Value} {vs vs' : List (Value × Value)} {w w' : World} (h : Moved v vs vs' w w') {base : Nat} {e : TypeId} {size : Nat} {z : Value} {n : Nat} {xs : List Value} (ho : w.ownsRow base e size z n xs) (ha : ∀ g, z.ownBlock = some g → g ∉ v.ownBlock.toList ++ vs.flatMap blks) :
    w'.ownsRow base e size z n xs ∧ ∀ g, z.ownBlock = some g → g ∉ v.ownBlock.toList ++ vs'.flatMap blks := by
  refine ⟨⟨ho.1, ?_⟩, fun g hg hm => ?_⟩
  · rcases ho.2 with h' | ⟨g, cap, cur, hv, hb, hh, h1, h2, h3, h4⟩
    · exact .inl h'
    · refine .inr ⟨g, cap, cur, hv, hb, ?_, h1, h2, h3, h4⟩
      have hlt := (owns_lt ho g (by rw [hv]; rfl)).2
      rw [h.block g hlt (ha g (by rw [hv]; rfl))]; exact hh
  · have hlt := (owns_lt ho g hg).2
    have hn := ha g hg
    rw [List.mem_append] at hm hn
    rcases hm with hm | hm
    · exact hn (.inl hm)
    · rcases h.new g hm with h1 | h1
      · exact hn (.inr h1)
      · omega
theorem Moved.cell {v : Value} {vs vs' : List (Value × Value)} {w w' : World} (h : Moved v vs vs' w w') {b o : Nat} {u : Value} (hc : w.cell? ⟨b, o, none⟩ = some u) (ha : b ∉ v.ownBlock.toList ++ vs.flatMap blks) : w'.cell? ⟨b, o, none⟩ = some u :=
  (World.cell?_of_block (a := ⟨b, o, none⟩) (h.block b (lt_of_cell hc) ha)).trans hc
theorem moved_grown {v : Value} {vs vs' : List (Value × Value)} {k : Nat} {p p' : Value × Value} {w w' : World} {row : Option Nat} (hp : vs[k]? = some p) (hvs : vs' = vs.set k p') (gr : w.grownBy w' row) (hrow : ∀ g, row = some g → g ∈ v.ownBlock.toList ++ blks p) (hf : ∀ g ∈ blks p', g ∈ blks p ∨ w.heap.size ≤ g) : Moved v vs vs' w w' := by
  have hin : ∀ g ∈ blks p, g ∈ vs.flatMap blks := fun g hg => List.mem_flatMap.2 ⟨p, List.mem_of_getElem? hp, hg⟩
  refine ⟨gr.os, gr.tape, gr.output, gr.size, fun g hg hn => gr.block g hg fun e => ?_, fun g hg => ?_⟩
  · have := hrow g e.symm
    rw [List.mem_append] at this hn
    rcases this with h1 | h1
    · exact hn (.inl h1)
    · exact hn (.inr (hin g h1))
  · subst hvs
    obtain ⟨i, q, hq, hgq⟩ := flat_mem hg
    by_cases hik : k = i
    · subst hik
      have hk : k < vs.length := (List.getElem?_eq_some_iff.1 hp).1
      rw [List.getElem?_set_self hk] at hq
      cases hq
      rcases hf g hgq with h1 | h1
      · exact .inl (hin g h1)
      · exact .inr h1
    · rw [List.getElem?_set_ne hik] at hq
      exact .inl (List.mem_flatMap.2 ⟨q, List.mem_of_getElem? hq, hgq⟩)
/-- One lock of one's own, read at its place. -/
theorem OwnK.one {T : TypeId} {w : World} {B n o cap : Nat} {ls : List Ch.Lock} {vs : List (Value × Value)} (h : OwnK T w B (.slice (some ⟨o, 0, none⟩) n cap) n ls vs) {k : Nat} (hk : k < n) :
    ∃ ah ch aq cq, vs[k]? = some (.slice ah (Ch.lkAt ls k).hs.length ch, .slice aq (Ch.lkAt ls k).qs.length cq) ∧ w.cell? ⟨o, k * 3, none⟩ = some (.int .i64 (Ch.lkAt ls k).r) ∧ w.cell? ⟨o, k * 3 + 1, none⟩ = some (.slice ah (Ch.lkAt ls k).hs.length ch) ∧ w.cell? ⟨o, k * 3 + 2, none⟩ = some (.slice aq (Ch.lkAt ls k).qs.length cq) ∧
      w.frozen? ⟨o, k * 3 + 1, none⟩ = false ∧ w.frozen? ⟨o, k * 3 + 2, none⟩ = false ∧ w.ownsRow B 120 2 (.slice ah (Ch.lkAt ls k).hs.length ch) (Ch.lkAt ls k).hs.length (hcells (Ch.lkAt ls k).hs) ∧ w.ownsRow B 120 2 (.slice aq (Ch.lkAt ls k).qs.length cq) (Ch.lkAt ls k).qs.length (hcells (Ch.lkAt ls k).qs) ∧
      (∀ g, (Value.slice ah (Ch.lkAt ls k).hs.length ch).ownBlock = some g → (Value.slice aq (Ch.lkAt ls k).qs.length cq).ownBlock ≠ some g) ∧ o ∉ blks (.slice ah (Ch.lkAt ls k).hs.length ch, .slice aq (Ch.lkAt ls k).qs.length cq) ∧ B ≤ o ∧ o < w.heap.size := by
  obtain ⟨p, hp⟩ := h.got hk
  have hat := lcells_at (ls := ls) (by rw [h.len, h.vlen]) hp
  have o1 := h.hs k p hp
  have o2 := h.qs k p hp
  have ne := fun g hg => apart_one h.apart hp (g := g) hg
  have nr : o ∉ blks p := apart_row h.apart hp rfl
  obtain ⟨x, y⟩ := p
  obtain ⟨ah, ch, ex⟩ := owns_shape o1
  obtain ⟨aq, cq, ey⟩ := owns_shape o2
  simp only at ex ey o1 o2 hat ne
  subst ex ey
  have ob := owns_lt h.row o rfl
  exact ⟨ah, ch, aq, cq, hp, (h.row.cellAt (k * 3) (by omega)).trans hat.1, (h.row.cellAt (k * 3 + 1) (by omega)).trans hat.2.1, (h.row.cellAt (k * 3 + 2) (by omega)).trans hat.2.2, h.row.frozenAt _, h.row.frozenAt _, o1, o2, ne, nr, ob.1, ob.2⟩

set_option maxHeartbeats 1000000 in
theorem leave_any (t : Int) (B o n cap k : Nat) (ls : List Ch.Lock) (vs : List (Value × Value)) (w : World) (own : OwnK 98 w B (.slice (some ⟨o, 0, none⟩) n cap) n ls vs) (hk : k < n) (hB : B ≤ w.heap.size) (hszh : (Ch.lkAt ls k).hs.length ≤ 1048576) (hszq : (Ch.lkAt ls k).qs.length ≤ 1048576) :
    Calls Try.prog 80 #[.pointer (some ⟨o, k * 3 + 2, none⟩), .int .i64 t] w fun e w' => e = .returned (.tuple #[]) ∧ ∃ vs', OwnK 98 w' B (.slice (some ⟨o, 0, none⟩) n cap) n (ls.set k ⟨(Ch.lkAt ls k).r, (Ch.lkAt ls k).hs, Ch.withoutH (Ch.lkAt ls k).qs t⟩) vs' ∧ Moved (.slice (some ⟨o, 0, none⟩) n cap) vs vs' w w' := by
  obtain ⟨ah, ch, aq, cq, hp, c0, c1, c2, f1, f2, o1, o2, ne, nr, ob1, ob2⟩ := own.one hk
  obtain ⟨l, HLK⟩ : ∃ l, Hid (Ch.lkAt ls k = l) := ⟨_, rfl⟩
  have hr0 : Hid ((Ch.lkAt ls k).r = l.r) := by show _ = _; rw [HLK.out]
  rw [HLK.out] at hp c0 c1 c2 o1 o2 ne nr hszh hszq ⊢
  obtain ⟨r, lhs, lqs⟩ := l
  simp only at hp c0 c1 c2 o1 o2 ne nr hszh hszq hr0
  have lo := lt_of_cell c0
  go_enter Try.func80, Try.ntmps80
  go_wp2_with fail
  refine (without_any aq lqs.length cq t lqs _ (owns_cells o2) hszq).mono ?_
  rintro e w1 ⟨a1, c1', rfl, ow, b1⟩
  have d2 := keep_cell b1 c2
  have g2 := ((bcell b1).2 o (k * 3 + 2) lo).trans f2
  have lo1 := lt_of_cell d2
  have gr := below_grown b1 none
  have hf : ∀ g ∈ blks (.slice ah lhs.length ch, .slice a1 (Ch.withoutH lqs t).length c1'), g ∈ blks (.slice ah lhs.length ch, .slice aq lqs.length cq) ∨ w.heap.size ≤ g := by
    intro g hg
    simp only [blks, List.mem_append, Option.mem_toList] at hg ⊢
    rcases hg with hg | hg
    · exact .inl (.inl hg)
    · exact .inr (owns_lt ow g hg).1
  have own1 := own.swap (j := 2) (z := .slice a1 (Ch.withoutH lqs t).length c1') hp gr (fun g hg => by cases hg) (l := ⟨r, lhs, Ch.withoutH lqs t⟩) hr0.out.symm (owns_below o1 b1) (owns_base ow hB) (fun g h1 h2 => by have := (owns_lt o1 g h1).2; have := (owns_lt ow g h2).1; omega) hf (.inr ⟨rfl, rfl, rfl⟩)
  go_wp2
  refine bodyPost_end (results_none rfl _ _ _) rfl ⟨rfl, _, own1, ?_⟩
  have hst := (own.below b1).row.stored (k * 3 + 2) (.slice a1 (Ch.withoutH lqs t).length c1')
  exact moved_grown hp rfl (gr_trans (below_grown b1 (some o)) hst.2) (fun g hg => by cases hg; simp [Value.ownBlock]) hf

theorem moved_two {v : Value} {vs vs' : List (Value × Value)} {k o : Nat} {p p' : Value × Value} {w w1 w' : World} {row : Option Nat} (hp : vs[k]? = some p) (hvs : vs' = vs.set k p') (gr : w.grownBy w1 row) (g2 : w1.grownBy w' (some o)) (hrow : ∀ g, row = some g → g ∈ blks p) (hv : v.ownBlock = some o) (hf : ∀ g ∈ blks p', g ∈ blks p ∨ w.heap.size ≤ g) : Moved v vs vs' w w' := by
  have m1 : Moved v vs (vs.set k p') w w1 := moved_grown hp rfl gr (fun g hg => List.mem_append.2 (.inr (hrow g hg))) hf
  subst hvs
  refine ⟨g2.os.trans m1.os, g2.tape.trans m1.tape, g2.output.trans m1.output, Nat.le_trans m1.size g2.size, fun g hg hn => ?_, m1.new⟩
  refine (g2.block g (Nat.lt_of_lt_of_le hg m1.size) fun e => ?_).trans (m1.block g hg hn)
  simp at e
  subst e
  exact hn (List.mem_append.2 (.inl (by simp [hv])))

set_option linter.unusedSimpArgs false in
set_option maxRecDepth 20000 in
set_option maxHeartbeats 4000000 in
theorem hold_any (t m : Int) (B o n cap k : Nat) (ls : List Ch.Lock) (vs : List (Value × Value)) (w : World) (own : OwnK 98 w B (.slice (some ⟨o, 0, none⟩) n cap) n ls vs) (hk : k < n) (hB : B ≤ w.heap.size) (hszh : (Ch.lkAt ls k).hs.length ≤ 1048576) (hszq : (Ch.lkAt ls k).qs.length ≤ 1048576) :
    Calls Try.prog 119 #[.pointer (some ⟨o, k * 3, none⟩), .agg #[.int .i64 t, .int .i64 m]] w fun e w' => e = .returned (.tuple #[]) ∧ ∃ vs', OwnK 98 w' B (.slice (some ⟨o, 0, none⟩) n cap) n (ls.set k ⟨(Ch.lkAt ls k).r, Ch.putH (Ch.lkAt ls k).hs ⟨t, m⟩, (Ch.lkAt ls k).qs⟩) vs' ∧ Moved (.slice (some ⟨o, 0, none⟩) n cap) vs vs' w w' := by
  obtain ⟨ah, ch, aq, cq, hp, c0, c1, c2, f1, f2, o1, o2, ne, nr, ob1, ob2⟩ := own.one hk
  obtain ⟨l, HLK⟩ : ∃ l, Hid (Ch.lkAt ls k = l) := ⟨_, rfl⟩
  have hr0 : Hid ((Ch.lkAt ls k).r = l.r) := by show _ = _; rw [HLK.out]
  rw [HLK.out] at hp c0 c1 c2 o1 o2 ne nr hszh hszq ⊢
  obtain ⟨r, lhs, lqs⟩ := l
  simp only at hp c0 c1 c2 o1 o2 ne nr hszh hszq hr0
  obtain ⟨i0, hi0, hz0, hz1, hz2⟩ := info_parts Try.info120
  have kA : ∀ q, Below w.heap.size w (w.alloc q) := fun q => (Below.refl _ _).alloc (Nat.le_refl _) q
  have y0 : (w.alloc (.cells #[.int .i64 t, .int .i64 m] 120)).cell? ⟨w.heap.size, 0, none⟩ = some (.int .i64 t) := by simp [go_sem]
  have y1 : (w.alloc (.cells #[.int .i64 t, .int .i64 m] 120)).cell? ⟨w.heap.size, 1, none⟩ = some (.int .i64 m) := by simp [go_sem]
  have HB := hid hB
  rcases Ch.atH_cases lhs t with ⟨he, HAT, _⟩ | ⟨j, hj, HAT, he, _⟩
  · have HPN := hid (Ch.putH_no (h := ⟨t, m⟩) he)
    clear he
    go_enter Try.func119, Try.ntmps119
    go_wp2_with fail
    refine wp_region_noPanic ?_
    refine wp_region_held_drew (S := fun W' => W'.cell? ⟨o, k * 3 + 1, none⟩ = some (.slice ah lhs.length ch) ∧ W'.cell? ⟨w.heap.size, 0, none⟩ = some (.int .i64 t) ∧ W'.cell? ⟨w.heap.size, 1, none⟩ = some (.int .i64 m) ∧ CellsAt W' ah (lhs.length * 2) (hcells lhs) ∧ Below w.heap.size w W') (by kernel_rfl) (⟨keep_cell (kA _) c1, y0, y1, (owns_cells o1).below ((kA _).drew), (kA _).drew⟩) (fun hH => ?_)
    refine hTake (i := 0) (v := ?_) rfl (by kernel_rfl) (by kernel_rfl) (by kernel_rfl) (by rfl) ?_ hH ?_
    rotate_left
    · intro W hW; (try dsimp only at hW); go_simp <;> with_reducible rfl
    simp only [Act.put, List.setIfInBounds_toArray, List.set_cons_zero, List.set_cons_succ]
    refine hTake (i := 1) (v := ?_) rfl (by kernel_rfl) (by kernel_rfl) (by kernel_rfl) (by rfl) ?_ hH ?_
    rotate_left
    · intro W hW; (try dsimp only at hW); go_simp <;> with_reducible rfl
    simp only [Act.put, List.setIfInBounds_toArray, List.set_cons_zero, List.set_cons_succ]
    refine hTake (i := 2) (v := ?_) rfl (by kernel_rfl) (by kernel_rfl) (by kernel_rfl) (by rfl) ?_ hH ?_
    rotate_left
    · intro W hW; (try dsimp only at hW); go_simp <;> with_reducible rfl
    simp only [Act.put, List.setIfInBounds_toArray, List.set_cons_zero, List.set_cons_succ]
    refine hTake (i := 3) (v := ?_) rfl (by kernel_rfl) (by kernel_rfl) (by kernel_rfl) (by rfl) ?_ hH ?_
    rotate_left
    · intro W hW; (try dsimp only at hW); go_simp <;> with_reducible rfl
    simp only [Act.put, List.setIfInBounds_toArray, List.set_cons_zero, List.set_cons_succ]
    refine hTake (i := 4) (v := ?_) rfl (by kernel_rfl) (by kernel_rfl) (by kernel_rfl) (by rfl) ?_ hH ?_
    rotate_left
    · intro W hW; (try dsimp only at hW); go_simp <;> with_reducible rfl
    simp only [Act.put, List.setIfInBounds_toArray, List.set_cons_zero, List.set_cons_succ]
    refine hTake (i := 5) (v := ?_) rfl (by kernel_rfl) (by kernel_rfl) (by kernel_rfl) (by rfl) ?_ hH ?_
    rotate_left
    · intro W hW; (try dsimp only at hW); go_simp <;> with_reducible rfl
    simp only [Act.put, List.setIfInBounds_toArray, List.set_cons_zero, List.set_cons_succ]
    refine wpAnyH_ready (rs := [6]) (by kernel_rfl) (by simp) ?_
    refine AllReadyH.cons rfl (fun K hK => ?_) AllReadyH.nil
    go_simp
    refine (placeOf_any ah lhs.length ch t lhs _ hH.2.2.2.1 hszh).mono ?_
    rintro e w2 ⟨rfl, b2⟩
    rw [HAT]
    go_wp2_with fail
    refine hK.out _ _ ?_ (fun hH => ?_)
    · exact ⟨keep_cell b2 hH.1, keep_cell b2 hH.2.1, keep_cell b2 hH.2.2.1, hH.2.2.2.1.below b2, hH.2.2.2.2.trans (b2.mono hH.2.2.2.2.size)⟩
    clear hK K
    refine hTake (i := 7) (v := ?_) rfl (by kernel_rfl) (by kernel_rfl) (by kernel_rfl) (by rfl) ?_ hH ?_
    rotate_left
    · intro W hW; (try dsimp only at hW); go_simp <;> with_reducible rfl
    simp only [Act.put, List.setIfInBounds_toArray, List.set_cons_zero, List.set_cons_succ]
    refine wpAnyH_done (by kernel_rfl) ?_ _
    refine NoPanic.normal ?_
    go_wp2_with fail
    have kw2 := hH.2.2.2.2
    have kN : Below w2.drew.heap.size w2.drew (w2.drew.alloc (.cells #[.int .i64 t, .int .i64 m] 120)) := (Below.refl _ _).alloc (Nat.le_refl _) _
    have kT : Below w.heap.size w (w2.drew.alloc (.cells #[.int .i64 t, .int .i64 m] 120)) := kw2.drew.alloc kw2.size _
    have oN := owns_below o1 kT
    have hC := new_hold w2.drew t m 120
    have hsum : lhs.length + 1 ≤ 4194304 := by omega
    have hb3 : B ≤ (w2.drew.alloc (.cells #[.int .i64 t, .int .i64 m] 120)).heap.size := Nat.le_trans HB.out kT.size
    have dd1 : w2.cell? ⟨o, k * 3 + 1, none⟩ = some (.slice ah lhs.length ch) := hH.1
    have ff1 : w2.frozen? ⟨o, k * 3 + 1, none⟩ = false := ((bcell kw2).2 o (k * 3 + 1) ob2).trans f1
    have lo2 := lt_of_cell dd1
    have hbx : (Value.slice ah lhs.length ch).ownBlock ≠ some w.heap.size := fun e => by have := (owns_lt o1 _ e).2; omega
    refine wp_region_noPanic ?_
    refine wp_region_held_drew (S := fun W' => W'.cell? ⟨w.heap.size, 0, none⟩ = some (.int .i64 t) ∧ W'.cell? ⟨w.heap.size, 1, none⟩ = some (.int .i64 m)) (by kernel_rfl) (⟨hH.2.1, hH.2.2.1⟩) (fun hH => ?_)
    refine hTake (i := 0) (v := ?_) rfl (by kernel_rfl) (by kernel_rfl) (by kernel_rfl) (by rfl) ?_ hH ?_
    rotate_left
    · intro W hW; (try dsimp only at hW); go_simp <;> with_reducible rfl
    simp only [Act.put, List.setIfInBounds_toArray, List.set_cons_zero, List.set_cons_succ]
    refine hTake (i := 1) (v := ?_) rfl (by kernel_rfl) (by kernel_rfl) (by kernel_rfl) (by rfl) ?_ hH ?_
    rotate_left
    · intro W hW; (try dsimp only at hW); go_simp <;> with_reducible rfl
    simp only [Act.put, List.setIfInBounds_toArray, List.set_cons_zero, List.set_cons_succ]
    refine hTake (i := 2) (v := ?_) rfl (by kernel_rfl) (by kernel_rfl) (by kernel_rfl) (by rfl) ?_ hH ?_
    rotate_left
    · intro W hW; (try dsimp only at hW); go_simp <;> with_reducible rfl
    simp only [Act.put, List.setIfInBounds_toArray, List.set_cons_zero, List.set_cons_succ]
    refine hTake (i := 3) (v := ?_) rfl (by kernel_rfl) (by kernel_rfl) (by kernel_rfl) (by rfl) ?_ hH ?_
    rotate_left
    · intro W hW; (try dsimp only at hW); go_simp <;> with_reducible rfl
    simp only [Act.put, List.setIfInBounds_toArray, List.set_cons_zero, List.set_cons_succ]
    refine hTake (i := 5) (v := ?_) rfl (by kernel_rfl) (by kernel_rfl) (by kernel_rfl) (by rfl) ?_ hH ?_
    rotate_left
    · intro W hW; (try dsimp only at hW); go_simp <;> with_reducible rfl
    simp only [Act.put, List.setIfInBounds_toArray, List.set_cons_zero, List.set_cons_succ]
    refine wpAnyH_ready (rs := [4, 6]) (by kernel_rfl) (by simp) ?_
    refine AllReadyH.cons rfl (fun K hK => ?_) (AllReadyH.cons rfl (fun K hK => ?_) AllReadyH.nil)
    · have e1 : w2.drew.cell? ⟨o, k * 3 + 1, none⟩ = some (.slice ah lhs.length ch) := dd1
      go_simp
      refine hK.out _ _ hH (fun hH => ?_)
      clear hK K
      refine wpAnyH_ready (rs := [6]) (by kernel_rfl) (by simp) ?_
      refine AllReadyH.cons rfl (fun K hK => ?_) AllReadyH.nil
      go_simp
      refine hK.out _ _ ⟨keep_cell kN hH.1, keep_cell kN hH.2⟩ (fun hH => ?_)
      clear hK K
      refine wpAnyH_ready (rs := [7]) (by kernel_rfl) (by simp) ?_
      refine AllReadyH.cons rfl (fun K hK => ?_) AllReadyH.nil
      refine step_appX Try.underlying94 Try.underlying94 hi0 hz0 hz1 hz2 rfl (by omega) (by omega) (.tmp 25) (.tmp 27) rfl rfl B (.slice ah lhs.length ch) lhs.length (hcells lhs) _ 1 1 (hcells [⟨t, m⟩]) rfl rfl oN hC (hcells_one' _) hsum hb3 ?_
      intro a5 c5 w5 own5 gr5 at5
      have d1 := (grown_cell gr5 (keep_cell kN dd1) (fun e => nr (by simp [blks, e])))
      have g1 := (gr5.frozen_far ⟨o, k * 3 + 1, none⟩ (Nat.lt_of_lt_of_le (show o < w2.drew.heap.size from lo2) kN.size) (by show some o ≠ _; exact fun e => nr (by simp [blks, e.symm]))).trans (((bcell kN).2 o (k * 3 + 1) (by show o < w2.heap.size; omega)).trans ff1)
      have lo5 := lt_of_cell d1
      refine hK.out _ _ ⟨grown_cell gr5 hH.1 hbx, grown_cell gr5 hH.2 hbx⟩ (fun hH => ?_)
      clear hK K
      simp only [Act.put, List.setIfInBounds_toArray, List.set_cons_zero, List.set_cons_succ]
      refine hTake (i := 8) (v := ?_) rfl (by kernel_rfl) (by kernel_rfl) (by kernel_rfl) (by rfl) ?_ hH ?_
      rotate_left
      · intro W hW; (try dsimp only at hW); go_simp <;> with_reducible rfl
      simp only [Act.put, List.setIfInBounds_toArray, List.set_cons_zero, List.set_cons_succ]
      refine hTake (i := 9) (v := ?_) rfl (by kernel_rfl) (by kernel_rfl) (by kernel_rfl) (by rfl) ?_ hH ?_
      rotate_left
      · intro W hW; (try dsimp only at hW); go_simp <;> with_reducible rfl
      simp only [Act.put, List.setIfInBounds_toArray, List.set_cons_zero, List.set_cons_succ]
      refine wpAnyH_ready (rs := [10]) (by kernel_rfl) (by simp) ?_
      refine AllReadyH.cons rfl (fun K hK => ?_) AllReadyH.nil
      go_simp
      refine hK.out _ _ (by first | (go_simp; done) | exact ⟨by rw [World.cell?_setCell_other _ _ _ _ (by simp; omega)]; exact hH.1, by rw [World.cell?_setCell_other _ _ _ _ (by simp; omega)]; exact hH.2⟩) (fun hH => ?_)
      clear hK K
      refine wpAnyH_done (by kernel_rfl) ?_ _
      refine NoPanic.normal ?_
      go_wp2
      rw [← hcells_append] at own5
      have grT : w.grownBy w5 (Value.slice ah lhs.length ch).ownBlock := ⟨gr5.os.trans kT.os, gr5.tape.trans kT.tape, gr5.output.trans kT.output, Nat.le_trans kT.size gr5.size, fun q hq hne => (gr5.block q (Nat.lt_of_lt_of_le hq kT.size) hne).trans (kT.block q hq)⟩
      have hf : ∀ g ∈ blks (.slice a5 (lhs.length + 1) c5, .slice aq lqs.length cq), g ∈ blks (.slice ah lhs.length ch, .slice aq lqs.length cq) ∨ w.heap.size ≤ g := by
        intro g hg
        simp only [blks, List.mem_append, Option.mem_toList] at hg ⊢
        rcases hg with hg | hg
        · rcases at5 g hg with h1 | h1
          · exact .inl (.inl h1)
          · exact .inr (Nat.le_trans kT.size h1)
        · exact .inl (.inr hg)
      have o2' : w5.ownsRow B 120 2 (.slice aq lqs.length cq) lqs.length (hcells lqs) := owns_grown o2 grT (fun g hg e => ne g e hg)
      have own6 := own.swap (j := 1) (z := .slice a5 (lhs.length + 1) c5) hp grT (fun g hg => by simp [blks, hg]) (l := ⟨r, lhs ++ [⟨t, m⟩], lqs⟩) hr0.out.symm (by simp only [List.length_append, List.length_cons, List.length_nil]; exact own5) o2' (fun g h1 h2 => by
        rcases at5 g h1 with h3 | h3
        · exact ne g h3 h2
        · exact absurd (owns_lt o2 g h2).2 (Nat.not_lt_of_le (Nat.le_trans kT.size h3))) hf (.inl ⟨rfl, rfl, rfl⟩)
      rw [← HPN.out] at own6
      refine bodyPost_end (results_none rfl _ _ _) rfl ⟨rfl, _, own6, ?_⟩
      have hst := (owns_grown own.row grT (fun g hg e => by cases hg; exact nr (by simp [blks, e]))).stored (k * 3 + 1) (.slice a5 (lhs.length + 1) c5)
      exact (moved_two hp rfl grT hst.2 (fun g hg => by simp [blks, hg]) rfl hf)
    · go_simp
      refine hK.out _ _ ⟨keep_cell kN hH.1, keep_cell kN hH.2⟩ (fun hH => ?_)
      clear hK K
      refine wpAnyH_ready (rs := [4]) (by kernel_rfl) (by simp) ?_
      refine AllReadyH.cons rfl (fun K hK => ?_) AllReadyH.nil
      have e1 := keep_cell kN dd1
      go_simp
      refine hK.out _ _ hH (fun hH => ?_)
      clear hK K
      refine wpAnyH_ready (rs := [7]) (by kernel_rfl) (by simp) ?_
      refine AllReadyH.cons rfl (fun K hK => ?_) AllReadyH.nil
      refine step_appX Try.underlying94 Try.underlying94 hi0 hz0 hz1 hz2 rfl (by omega) (by omega) (.tmp 25) (.tmp 27) rfl rfl B (.slice ah lhs.length ch) lhs.length (hcells lhs) _ 1 1 (hcells [⟨t, m⟩]) rfl rfl oN hC (hcells_one' _) hsum hb3 ?_
      intro a5 c5 w5 own5 gr5 at5
      have d1 := (grown_cell gr5 (keep_cell kN dd1) (fun e => nr (by simp [blks, e])))
      have g1 := (gr5.frozen_far ⟨o, k * 3 + 1, none⟩ (Nat.lt_of_lt_of_le (show o < w2.drew.heap.size from lo2) kN.size) (by show some o ≠ _; exact fun e => nr (by simp [blks, e.symm]))).trans (((bcell kN).2 o (k * 3 + 1) (by show o < w2.heap.size; omega)).trans ff1)
      have lo5 := lt_of_cell d1
      refine hK.out _ _ ⟨grown_cell gr5 hH.1 hbx, grown_cell gr5 hH.2 hbx⟩ (fun hH => ?_)
      clear hK K
      simp only [Act.put, List.setIfInBounds_toArray, List.set_cons_zero, List.set_cons_succ]
      refine hTake (i := 8) (v := ?_) rfl (by kernel_rfl) (by kernel_rfl) (by kernel_rfl) (by rfl) ?_ hH ?_
      rotate_left
      · intro W hW; (try dsimp only at hW); go_simp <;> with_reducible rfl
      simp only [Act.put, List.setIfInBounds_toArray, List.set_cons_zero, List.set_cons_succ]
      refine hTake (i := 9) (v := ?_) rfl (by kernel_rfl) (by kernel_rfl) (by kernel_rfl) (by rfl) ?_ hH ?_
      rotate_left
      · intro W hW; (try dsimp only at hW); go_simp <;> with_reducible rfl
      simp only [Act.put, List.setIfInBounds_toArray, List.set_cons_zero, List.set_cons_succ]
      refine wpAnyH_ready (rs := [10]) (by kernel_rfl) (by simp) ?_
      refine AllReadyH.cons rfl (fun K hK => ?_) AllReadyH.nil
      go_simp
      refine hK.out _ _ (by first | (go_simp; done) | exact ⟨by rw [World.cell?_setCell_other _ _ _ _ (by simp; omega)]; exact hH.1, by rw [World.cell?_setCell_other _ _ _ _ (by simp; omega)]; exact hH.2⟩) (fun hH => ?_)
      clear hK K
      refine wpAnyH_done (by kernel_rfl) ?_ _
      refine NoPanic.normal ?_
      go_wp2
      rw [← hcells_append] at own5
      have grT : w.grownBy w5 (Value.slice ah lhs.length ch).ownBlock := ⟨gr5.os.trans kT.os, gr5.tape.trans kT.tape, gr5.output.trans kT.output, Nat.le_trans kT.size gr5.size, fun q hq hne => (gr5.block q (Nat.lt_of_lt_of_le hq kT.size) hne).trans (kT.block q hq)⟩
      have hf : ∀ g ∈ blks (.slice a5 (lhs.length + 1) c5, .slice aq lqs.length cq), g ∈ blks (.slice ah lhs.length ch, .slice aq lqs.length cq) ∨ w.heap.size ≤ g := by
        intro g hg
        simp only [blks, List.mem_append, Option.mem_toList] at hg ⊢
        rcases hg with hg | hg
        · rcases at5 g hg with h1 | h1
          · exact .inl (.inl h1)
          · exact .inr (Nat.le_trans kT.size h1)
        · exact .inl (.inr hg)
      have o2' : w5.ownsRow B 120 2 (.slice aq lqs.length cq) lqs.length (hcells lqs) := owns_grown o2 grT (fun g hg e => ne g e hg)
      have own6 := own.swap (j := 1) (z := .slice a5 (lhs.length + 1) c5) hp grT (fun g hg => by simp [blks, hg]) (l := ⟨r, lhs ++ [⟨t, m⟩], lqs⟩) hr0.out.symm (by simp only [List.length_append, List.length_cons, List.length_nil]; exact own5) o2' (fun g h1 h2 => by
        rcases at5 g h1 with h3 | h3
        · exact ne g h3 h2
        · exact absurd (owns_lt o2 g h2).2 (Nat.not_lt_of_le (Nat.le_trans kT.size h3))) hf (.inl ⟨rfl, rfl, rfl⟩)
      rw [← HPN.out] at own6
      refine bodyPost_end (results_none rfl _ _ _) rfl ⟨rfl, _, own6, ?_⟩
      have hst := (owns_grown own.row grT (fun g hg e => by cases hg; exact nr (by simp [blks, e]))).stored (k * 3 + 1) (.slice a5 (lhs.length + 1) c5)
      exact (moved_two hp rfl grT hst.2 (fun g hg => by simp [blks, hg]) rfl hf)
  · have HPY := hid (Ch.putH_yes (h := ⟨t, m⟩) he HAT)
    clear he
    obtain ⟨xb, rfl⟩ : ∃ xb, ah = some ⟨xb, 0, none⟩ := by
      rcases o1.2 with ⟨hv, h0⟩ | ⟨g, cp, cur, hv, _⟩
      · omega
      · simp only [Value.slice.injEq, true_and] at hv
        exact ⟨g, hv.1⟩
    have hxb := owns_lt o1 xb rfl
    have hxo : ¬ xb = o := fun e => nr (by subst e; simp [blks, Value.ownBlock])
    go_enter Try.func119, Try.ntmps119
    go_wp2_with fail
    refine wp_region_noPanic ?_
    refine wp_region_held_drew (S := fun W' => W'.cell? ⟨o, k * 3 + 1, none⟩ = some (.slice (some ⟨xb, 0, none⟩) lhs.length ch) ∧ W'.cell? ⟨w.heap.size, 0, none⟩ = some (.int .i64 t) ∧ W'.cell? ⟨w.heap.size, 1, none⟩ = some (.int .i64 m) ∧ CellsAt W' (some ⟨xb, 0, none⟩) (lhs.length * 2) (hcells lhs) ∧ Below w.heap.size w W') (by kernel_rfl) (⟨keep_cell (kA _) c1, y0, y1, (owns_cells o1).below ((kA _).drew), (kA _).drew⟩) (fun hH => ?_)
    refine hTake (i := 0) (v := ?_) rfl (by kernel_rfl) (by kernel_rfl) (by kernel_rfl) (by rfl) ?_ hH ?_
    rotate_left
    · intro W hW; (try dsimp only at hW); go_simp <;> with_reducible rfl
    simp only [Act.put, List.setIfInBounds_toArray, List.set_cons_zero, List.set_cons_succ]
    refine hTake (i := 1) (v := ?_) rfl (by kernel_rfl) (by kernel_rfl) (by kernel_rfl) (by rfl) ?_ hH ?_
    rotate_left
    · intro W hW; (try dsimp only at hW); go_simp <;> with_reducible rfl
    simp only [Act.put, List.setIfInBounds_toArray, List.set_cons_zero, List.set_cons_succ]
    refine hTake (i := 2) (v := ?_) rfl (by kernel_rfl) (by kernel_rfl) (by kernel_rfl) (by rfl) ?_ hH ?_
    rotate_left
    · intro W hW; (try dsimp only at hW); go_simp <;> with_reducible rfl
    simp only [Act.put, List.setIfInBounds_toArray, List.set_cons_zero, List.set_cons_succ]
    refine hTake (i := 3) (v := ?_) rfl (by kernel_rfl) (by kernel_rfl) (by kernel_rfl) (by rfl) ?_ hH ?_
    rotate_left
    · intro W hW; (try dsimp only at hW); go_simp <;> with_reducible rfl
    simp only [Act.put, List.setIfInBounds_toArray, List.set_cons_zero, List.set_cons_succ]
    refine hTake (i := 4) (v := ?_) rfl (by kernel_rfl) (by kernel_rfl) (by kernel_rfl) (by rfl) ?_ hH ?_
    rotate_left
    · intro W hW; (try dsimp only at hW); go_simp <;> with_reducible rfl
    simp only [Act.put, List.setIfInBounds_toArray, List.set_cons_zero, List.set_cons_succ]
    refine hTake (i := 5) (v := ?_) rfl (by kernel_rfl) (by kernel_rfl) (by kernel_rfl) (by rfl) ?_ hH ?_
    rotate_left
    · intro W hW; (try dsimp only at hW); go_simp <;> with_reducible rfl
    simp only [Act.put, List.setIfInBounds_toArray, List.set_cons_zero, List.set_cons_succ]
    refine wpAnyH_ready (rs := [6]) (by kernel_rfl) (by simp) ?_
    refine AllReadyH.cons rfl (fun K hK => ?_) AllReadyH.nil
    go_simp
    refine (placeOf_any (some ⟨xb, 0, none⟩) lhs.length ch t lhs _ hH.2.2.2.1 hszh).mono ?_
    rintro e w2 ⟨rfl, b2⟩
    rw [HAT]
    go_wp2_with fail
    refine hK.out _ _ ?_ (fun hH => ?_)
    · exact ⟨keep_cell b2 hH.1, keep_cell b2 hH.2.1, keep_cell b2 hH.2.2.1, hH.2.2.2.1.below b2, hH.2.2.2.2.trans (b2.mono hH.2.2.2.2.size)⟩
    clear hK K
    refine hTake (i := 7) (v := ?_) rfl (by kernel_rfl) (by kernel_rfl) (by kernel_rfl) (by rfl) ?_ hH ?_
    rotate_left
    · intro W hW; (try dsimp only at hW); go_simp <;> with_reducible rfl
    simp only [Act.put, List.setIfInBounds_toArray, List.set_cons_zero, List.set_cons_succ]
    refine wpAnyH_done (by kernel_rfl) ?_ _
    refine NoPanic.normal ?_
    go_wp2_with fail
    have kw2 := hH.2.2.2.2
    have ownx := owns_below o1 kw2
    have hd0 := ownx.frozenAt (j * 2)
    have hd1 := ownx.frozenAt (j * 2 + 1)
    obtain ⟨u0, hu0⟩ := owns_some ownx (j := j * 2) (by omega)
    obtain ⟨u1, hu1⟩ := owns_some ownx (j := j * 2 + 1) (by omega)
    have lx := lt_of_cell hu0
    have hst0 := ownx.stored (j * 2) (.int .i64 t)
    have hst1 := hst0.1.stored (j * 2 + 1) (.int .i64 m)
    have gr := gr_trans hst0.2 hst1.2
    have hcell := hcells_set lhs j ⟨t, m⟩ hj
    simp only at hcell
    rw [hcell] at hst1
    have own2 := own.below kw2
    have hxw : ¬ xb = w.heap.size := by omega
    refine wp_region_noPanic ?_
    refine wp_region_held_drew (S := fun W' => W'.cell? ⟨o, k * 3 + 1, none⟩ = some (.slice (some ⟨xb, 0, none⟩) lhs.length ch) ∧ W'.cell? ⟨w.heap.size, 0, none⟩ = some (.int .i64 t) ∧ W'.cell? ⟨w.heap.size, 1, none⟩ = some (.int .i64 m)) (by kernel_rfl) (⟨hH.1, hH.2.1, hH.2.2.1⟩) (fun hH => ?_)
    refine hTake (i := 0) (v := ?_) rfl (by kernel_rfl) (by kernel_rfl) (by kernel_rfl) (by rfl) ?_ hH ?_
    rotate_left
    · intro W hW; (try dsimp only at hW); go_simp <;> with_reducible rfl
    simp only [Act.put, List.setIfInBounds_toArray, List.set_cons_zero, List.set_cons_succ]
    refine hTake (i := 1) (v := ?_) rfl (by kernel_rfl) (by kernel_rfl) (by kernel_rfl) (by rfl) ?_ hH ?_
    rotate_left
    · intro W hW; (try dsimp only at hW); go_simp <;> with_reducible rfl
    simp only [Act.put, List.setIfInBounds_toArray, List.set_cons_zero, List.set_cons_succ]
    refine hTake (i := 2) (v := ?_) rfl (by kernel_rfl) (by kernel_rfl) (by kernel_rfl) (by rfl) ?_ hH ?_
    rotate_left
    · intro W hW; (try dsimp only at hW); go_simp <;> with_reducible rfl
    simp only [Act.put, List.setIfInBounds_toArray, List.set_cons_zero, List.set_cons_succ]
    refine hTake (i := 3) (v := ?_) rfl (by kernel_rfl) (by kernel_rfl) (by kernel_rfl) (by rfl) ?_ hH ?_
    rotate_left
    · intro W hW; (try dsimp only at hW); go_simp <;> with_reducible rfl
    simp only [Act.put, List.setIfInBounds_toArray, List.set_cons_zero, List.set_cons_succ]
    refine hTake (i := 4) (v := ?_) rfl (by kernel_rfl) (by kernel_rfl) (by kernel_rfl) (by rfl) ?_ hH ?_
    rotate_left
    · intro W hW; (try dsimp only at hW); go_simp <;> with_reducible rfl
    simp only [Act.put, List.setIfInBounds_toArray, List.set_cons_zero, List.set_cons_succ]
    refine hTake (i := 5) (v := ?_) rfl (by kernel_rfl) (by kernel_rfl) (by kernel_rfl) (by rfl) ?_ hH ?_
    rotate_left
    · intro W hW; (try dsimp only at hW); go_simp <;> with_reducible rfl
    simp only [Act.put, List.setIfInBounds_toArray, List.set_cons_zero, List.set_cons_succ]
    refine hTake (i := 6) (v := ?_) rfl (by kernel_rfl) (by kernel_rfl) (by kernel_rfl) (by rfl) ?_ hH ?_
    rotate_left
    · intro W hW; (try dsimp only at hW); go_simp <;> with_reducible rfl
    simp only [Act.put, List.setIfInBounds_toArray, List.set_cons_zero, List.set_cons_succ]
    refine wpAnyH_ready (rs := [7]) (by kernel_rfl) (by simp) ?_
    refine AllReadyH.cons rfl (fun K hK => ?_) AllReadyH.nil
    go_simp
    refine hK.out _ _ ?_ (fun hH => ?_)
    · exact ⟨grown_cell gr hH.1 (by simpa using hxo), grown_cell gr hH.2.1 (by simpa using hxw), grown_cell gr hH.2.2 (by simpa using hxw)⟩
    clear hK K
    refine wpAnyH_done (by kernel_rfl) ?_ _
    refine NoPanic.normal ?_
    go_wp2
    have own3 := own2.turn hp gr (fun g hg => by cases hg; simp [blks, Value.ownBlock]) ⟨r, lhs.set j ⟨t, m⟩, lqs⟩ hr0.out.symm (by simp only [List.length_set]; exact hst1.1) (owns_grown (owns_below o2 kw2) gr (fun g hg e => by cases e; exact ne xb rfl hg))
    rw [← HPY.out] at own3
    refine bodyPost_ret (results_none rfl _ _ _) rfl ⟨rfl, vs, own3.below (Below.refl _ _).drew, ?_⟩
    refine (Moved.ofBelow kw2).trans ?_
    exact ⟨gr.os, gr.tape, gr.output, gr.size, fun g hg hn => gr.block g hg (fun e => hn (by cases e; exact List.mem_append.2 (.inr (List.mem_flatMap.2 ⟨_, List.mem_of_getElem? hp, by simp [blks, Value.ownBlock]⟩)))), fun g hg => .inl hg⟩

end Go.Proofs.Ytbeolkklnlljcaa
