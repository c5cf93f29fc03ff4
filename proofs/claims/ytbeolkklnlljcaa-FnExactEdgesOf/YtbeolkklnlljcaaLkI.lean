
/- FreeLocks of the program. -/
import Derived.Test.YtbeolkklnlljcaaLkH
namespace Go.Proofs.Ytbeolkklnlljcaa
open Go.RowKit

theorem Ch.freeInts_len {ls : List Ch.Lock} {t : Int} (h : ∀ i, i < ls.length → (Ch.lkAt ls i).qs.length ≤ 20) (k : Nat) (hk : k ≤ ls.length) : (Ch.freeInts (ls.take k) t).length ≤ 20 * k := by
  induction k with
  | zero => simp [Ch.freeInts]
  | succ k ih =>
    rw [Ch.freeInts_next ls t k (by omega), List.length_append]
    have h1 := ih (by omega)
    have h2 := h k (by omega)
    have h3 := (Ch.admit_len (Ch.withoutH (Ch.lkAt ls k).hs t) (Ch.withoutH (Ch.lkAt ls k).qs t)).2
    have h4 := Ch.without_len (Ch.lkAt ls k).qs t
    unfold Ch.freeGot
    omega
theorem Ch.size_bound {ls : List Ch.Lock} {N : Nat} (h : ∀ l ∈ ls, l.hs.length + l.qs.length ≤ N) : Ch.lkSize ls ≤ (N + 1) * ls.length := by
  induction ls with
  | nil => simp [Ch.lkSize, Ch.lkSum]
  | cons l ls ih =>
    have h1 := ih (fun x hx => h x (by simp [hx]))
    have h2 := h l (by simp)
    unfold Ch.lkSize Ch.lkSum at *
    simp only [List.map_cons, List.sum_cons, List.length_cons, Nat.mul_add, Nat.mul_one]
    omega
theorem Ch.good_at {ls : List Ch.Lock} (h : Ch.locksFault ls = 0) {i : Nat} (hi : i < ls.length) : (Ch.lkAt ls i).hs.length ≤ 20 ∧ (Ch.lkAt ls i).qs.length ≤ 20 ∧ Ch.namesH (Ch.lkAt ls i).hs = true ∧ Ch.namesH (Ch.lkAt ls i).qs = true ∧ Ch.twice (Ch.lkAt ls i).qs = false := by
  have := Ch.lock_good (Ch.one_good ((Ch.locks_good h).1 i hi)).2.2.2
  exact ⟨this.1, this.2.1, this.2.2.1, this.2.2.2.1, this.2.2.2.2.2.1⟩
theorem Ch.freeOne_len (l : Ch.Lock) (t : Int) : (Ch.freeOne l t).hs.length + (Ch.freeOne l t).qs.length ≤ l.hs.length + l.qs.length := by
  have h1 := (Ch.admit_len (Ch.withoutH l.hs t) (Ch.withoutH l.qs t)).1
  have h2 := Ch.without_len l.hs t
  have h3 := Ch.without_len l.qs t
  unfold Ch.freeOne
  simp only
  omega
theorem Ch.freeAll_mem {ls : List Ch.Lock} (h : Ch.locksFault ls = 0) (t : Int) : ∀ l ∈ Ch.freeAll ls t, l.hs.length + l.qs.length ≤ 40 := by
  intro l hl
  unfold Ch.freeAll at hl
  rw [List.mem_map] at hl
  obtain ⟨l0, hl0, rfl⟩ := hl
  obtain ⟨i, hi, rfl⟩ := List.getElem_of_mem hl0
  have h1 := Ch.good_at h hi
  have e : Ch.lkAt ls i = ls[i] := by simp [Ch.lkAt, List.getD, hi]
  rw [e] at h1
  have := Ch.freeOne_len ls[i] t
  omega
theorem Ch.freeAll_size {ls : List Ch.Lock} (h : Ch.locksFault ls = 0) (t : Int) : Ch.lkSize (Ch.freeAll ls t) ≤ 5000 := by
  have h1 := Ch.size_bound (Ch.freeAll_mem h t)
  have h2 := Ch.good_few h
  have h3 : (Ch.freeAll ls t).length = ls.length := by simp [Ch.freeAll]
  omega
theorem Ch.free_size {ls : List Ch.Lock} (h : Ch.locksFault ls = 0) (t : Int) : Ch.lkSize ((Ch.freeAll ls t).filter Ch.usedL) ≤ 5000 := by
  have h1 := Ch.size_bound (ls := (Ch.freeAll ls t).filter Ch.usedL) (N := 40) (fun l hl => Ch.freeAll_mem h t l (List.mem_filter.1 hl).1)
  have h2 := Ch.good_few h
  have h3 : (Ch.freeAll ls t).length = ls.length := by simp [Ch.freeAll]
  have h4 := List.length_filter_le Ch.usedL (Ch.freeAll ls t)
  omega
theorem row4 {W : World} {g : Nat} {t : TypeId} {u0 u1 u2 u3 : Value} (h : W.heap[g]? = some (.cells #[u0, u1, u2, u3] t (0, 0))) :
    (W.cell? ⟨g, 0, none⟩ = some u0 ∧ W.cell? ⟨g, 1, none⟩ = some u1 ∧ W.cell? ⟨g, 2, none⟩ = some u2 ∧ W.cell? ⟨g, 3, none⟩ = some u3) ∧ (W.frozen? ⟨g, 0, none⟩ = false ∧ W.frozen? ⟨g, 1, none⟩ = false ∧ W.frozen? ⟨g, 2, none⟩ = false ∧ W.frozen? ⟨g, 3, none⟩ = false) :=
  ⟨⟨cell_of_row _ _ _ _ _ _ h, cell_of_row _ _ _ _ _ _ h, cell_of_row _ _ _ _ _ _ h, cell_of_row _ _ _ _ _ _ h⟩, frz_of h, frz_of h, frz_of h, frz_of h⟩
theorem heap_lower {B : Nat} {w w' : World} (hb : Below B w w') {b : Nat} (hB : b < B) {o : Obj} (h : w.heap[b]? = some o) : w'.heap[b]? = some o := (hb.block b hB).trans h
theorem OwnK.other {T : TypeId} {w w' : World} {B n : Nat} {v : Value} {ls : List Ch.Lock} {vs : List (Value × Value)} (h : OwnK T w B v n ls vs) {row : Option Nat} (gr : w.grownBy w' row) (hr : ∀ g, row = some g → g ∉ v.ownBlock.toList ++ vs.flatMap blks) : OwnK T w' B v n ls vs := by
  refine ⟨h.len, h.vlen, owns_grown h.row gr fun g hg e => hr g e (List.mem_append.2 (.inl (by simp [hg]))), fun i q hq => owns_grown (h.hs i q hq) gr fun g hg e => hr g e ?_, fun i q hq => owns_grown (h.qs i q hq) gr fun g hg e => hr g e ?_, h.apart⟩
  · exact List.mem_append.2 (.inr (List.mem_flatMap.2 ⟨q, List.mem_of_getElem? hq, by simp [blks, hg]⟩))
  · exact List.mem_append.2 (.inr (List.mem_flatMap.2 ⟨q, List.mem_of_getElem? hq, by simp [blks, hg]⟩))

/-- What FreeLocks and AskLock answer, in memory of its own. -/
def LkRes (w : World) (B : Nat) (a1 : Option Addr) (m1 c1 : Nat) (zs : List Int) (a2 : Option Addr) (m2 c2 : Nat) (ls : List Ch.Lock) (vs : List (Value × Value)) : Prop :=
  w.ownsRow B 2 1 (.slice a1 m1 c1) m1 (icells zs) ∧ OwnK 104 w B (.slice a2 m2 c2) m2 ls vs ∧ (∀ g, (Value.slice a1 m1 c1).ownBlock = some g → g ∉ (Value.slice a2 m2 c2).ownBlock.toList ++ vs.flatMap blks) ∧ m1 ≤ 1048576 ∧ Ch.lkSize ls ≤ 1048576

set_option linter.unusedSimpArgs false in
set_option maxRecDepth 20000 in
set_option maxHeartbeats 4000000 in
theorem implFree_any (a : Option Addr) (n cap : Nat) (t : Int) (ls : List Ch.Lock) (w : World) (h : LkAt w a n ls) (hs : Ch.lkSize ls ≤ 1048576) :
    Calls Try.prog 22 #[.slice a n cap, .int .i64 t] w fun e w' => ∃ a1 m1 c1 a2 m2 c2 vs, e = .returned (.agg #[.int .i64 (Ch.freeR ls t).1, .bool false, .slice a1 m1 c1, .slice a2 m2 c2]) ∧ LkRes w' w.heap.size a1 m1 c1 (Ch.freeR ls t).2.1 a2 m2 c2 (Ch.freeR ls t).2.2 vs ∧ Below w.heap.size w w' := by
  have IA := fun W hW => txnLocks_any a n cap t ls W hW hs
  have kA : ∀ o, Below w.heap.size w (w.alloc o) := fun o => (Below.refl _ _).alloc (Nat.le_refl _) o
  have HL := h.len
  have hn : n ≤ 1048576 := by unfold Ch.lkSize at hs; have := HL.out; omega
  obtain ⟨i0, hi0, hz0, hz1, hz2⟩ := info_parts Try.info2
  obtain ⟨c, HC⟩ : ∃ c, Hid (Ch.askedT ls t = c) := ⟨_, rfl⟩
  rw [HC.out] at IA
  by_cases h0 : c = 0
  · subst h0
    rw [Ch.freeR_ok HC.out]
    have HG := hid (Ch.askedT_good HC.out).1
    clear HC
    go_enter Try.func22, Try.ntmps22
    go_wp2_with fail
    refine (IA _ (h.below (kA _))).mono ?_
    rintro e w1 ⟨rfl, b1⟩
    have hR := heap_below b1 (heap_alloc_new w _)
    have b1 := below_box b1
    have lz := (Array.getElem?_eq_some_iff.1 hR).1
    go_wp2_with fail
    refine (openLocks_any a n cap ls _ (h.below b1) hs).mono ?_
    rintro e w2 ⟨a2, c2, rfl, ⟨vs2, own2⟩, b2⟩
    have hR2 := heap_below b2 hR
    have b2' := b1.trans (b2.mono b1.size)
    have z2 := b2.size
    clear IA hR
    go_wp2
    go_loopw [7, 20] (fun q i wr => ∃ (k m : Nat) (a' : Option Addr) (c' : Nat) (vs' : List (Value × Value)), k ≤ n ∧ i = .int .i64 k ∧ q = .slice a' m c' ∧ OwnO wr w1.heap.size (.slice a2 n c2) n (Ch.freedTo ls t k) vs' ∧ wr.ownsRow w1.heap.size 2 1 (.slice a' m c') m (icells (Ch.freeInts (ls.take k) t)) ∧ (∀ g, (Value.slice a' m c').ownBlock = some g → g ∉ (Value.slice a2 n c2).ownBlock.toList ++ vs'.flatMap blks) ∧ wr.heap[w.heap.size]? = some (.cells #[.int .i64 0, .bool false, .slice none 0 0, .slice none 0 0] 29 (0, 0)) ∧ w1.heap.size ≤ wr.heap.size ∧ Below w.heap.size w wr) (fun _ i _ => n - (intOf i).toNat)
    case atStart => exact ⟨0, 0, none, 0, vs2, Nat.zero_le _, rfl, rfl, by simpa [Ch.freedTo, Ch.freeAll] using own2, World.ownsRow_nil _ _ _ _, fun g hg => by simp [Value.ownBlock] at hg, hR2, z2, b2'⟩
    case round =>
      clear hR2 b2' own2
      obtain ⟨k, m, a', c', vs', hk, rfl, rfl, own, oi, hap, hR, hsz, hB⟩ := hrel
      have lr := (Array.getElem?_eq_some_iff.1 hR).1
      have hm20 : Hid (m ≤ 20 * k) := by
        have h1 := oi.1
        rw [icells_len] at h1
        have h2 := Ch.freeInts_len (t := t) (fun i hi => (Ch.good_at HG.out hi).2.1) k (by have := HL.out; omega)
        show _ ≤ _; omega
      have hfew : Hid (n ≤ 101) := by have := Ch.good_few HG.out; have := HL.out; show _ ≤ _; omega
      by_cases hlt : k < n
      · have hkl : k < ls.length := by have := HL.out; omega
        have HAt := hid (Ch.freedTo_at ls t k hkl)
        have HFS := hid (Ch.freedTo_set ls t k hkl)
        have HFI := hid (Ch.freeInts_next ls t k hkl)
        have HGA := hid (Ch.good_at HG.out hkl)
        obtain ⟨o, rfl⟩ := own.rowAt hlt
        obtain ⟨ah, ch, aq, cq, hp, c0, c1, c2', f1, f2, o1, o2, ne, nr, ob1, ob2⟩ := own.one hlt
        rw [HAt.out] at hp c0 c1 c2' o1 o2 ne nr
        have hr0 : Hid ((Ch.lkAt (Ch.freedTo ls t k) k).r = (Ch.lkAt ls k).r) := by show _ = _; rw [HAt.out]
        have HFO : Hid (Ch.freeOne (Ch.lkAt ls k) t = ⟨(Ch.lkAt ls k).r, (Ch.admitL (Ch.withoutH (Ch.lkAt ls k).hs t) (Ch.withoutH (Ch.lkAt ls k).qs t)).1, (Ch.admitL (Ch.withoutH (Ch.lkAt ls k).hs t) (Ch.withoutH (Ch.lkAt ls k).qs t)).2.1⟩) := rfl
        have HFG : Hid (Ch.freeGot (Ch.lkAt ls k) t = (Ch.admitL (Ch.withoutH (Ch.lkAt ls k).hs t) (Ch.withoutH (Ch.lkAt ls k).qs t)).2.2) := rfl
        generalize Ch.lkAt ls k = l at *
        obtain ⟨r, lhs, lqs⟩ := l
        simp only at hp c0 c1 c2' o1 o2 ne nr hr0 HGA HFO HFG
        have hl1 := HGA.out.1
        have hl2 := HGA.out.2.1
        have HTW := hid (Ch.without_twice HGA.out.2.2.2.2 t)
        have hw1 := Ch.without_len lhs t
        have hw2 := Ch.without_len lqs t
        have HB := hid hB
        go_wp2_with fail
        refine (without_any ah lhs.length ch t lhs _ (owns_cells o1) (by omega)).mono ?_
        rintro e w3 ⟨a3, c3, rfl, ow3, b3⟩
        have d1 := keep_cell b3 c1
        have g1 := ((bcell b3).2 o (k * 3 + 1) ob2).trans f1
        have lo3 := lt_of_cell d1
        have gr3 := below_grown b3 none
        have hf3 : ∀ g ∈ blks (.slice a3 (Ch.withoutH lhs t).length c3, .slice aq lqs.length cq), g ∈ blks (.slice ah lhs.length ch, .slice aq lqs.length cq) ∨ wr.heap.size ≤ g := by
          intro g hg
          simp only [blks, List.mem_append, Option.mem_toList] at hg ⊢
          rcases hg with hg | hg
          · exact .inr (owns_lt ow3 g hg).1
          · exact .inl (.inr hg)
        have own4 := own.swap (j := 1) (z := .slice a3 (Ch.withoutH lhs t).length c3) hp gr3 (fun g hg => by cases hg) (l := ⟨r, Ch.withoutH lhs t, lqs⟩) hr0.out.symm (owns_base ow3 hsz) (owns_below o2 b3) (fun g h1 h2 => by have := (owns_lt ow3 g h1).1; have := (owns_lt o2 g h2).2; omega) hf3 (.inl ⟨rfl, rfl, rfl⟩)
        have hst := (own.below b3).row.stored (k * 3 + 1) (.slice a3 (Ch.withoutH lhs t).length c3)
        have mv4 : Moved (.slice (some ⟨o, 0, none⟩) n c2) vs' _ wr _ := moved_grown hp rfl (gr_trans (below_grown b3 (some o)) hst.2) (fun g hg => by cases hg; simp [Value.ownBlock]) hf3
        have hs4 := mv4.size
        go_wp2_with fail
        refine (leave_set t w1.heap.size o n c2 k _ ⟨r, Ch.withoutH lhs t, lqs⟩ _ _ own4 hlt (Nat.le_trans hsz hs4) (by simp only; omega) (by simp only; omega)).mono ?_
        rintro e w5 ⟨rfl, vs5, own5, mv5⟩
        have hs5 := Nat.le_trans hs4 mv5.size
        have lo5 : o < w5.heap.size := (owns_lt own5.row o rfl).2
        simp only at own5
        go_wp2_with fail
        refine (admit_any w1.heap.size o n c2 k _ ⟨r, Ch.withoutH lhs t, Ch.withoutH lqs t⟩ _ _ own5 hlt (Nat.le_trans hsz hs5) (by simp only; omega) HTW.out).mono ?_
        rintro e w6 ⟨a6, m6, c6, vs6, rfl, own6, mv6, hc6, hm6⟩
        simp only at own6 hc6 hm6
        have mvT := (mv4.trans mv5).trans mv6
        have ⟨oi6, hap6⟩ := mvT.owns oi hap
        have hs6 := mvT.size
        have hb6 : w1.heap.size ≤ w6.heap.size := Nat.le_trans hsz hs6
        have hsum : m + m6 ≤ 4194304 := by have := hm20.out; have := hfew.out; omega
        have B6 : Below w1.heap.size wr w6 := mvT.below own hsz
        have bT : Below w.heap.size w w6 := HB.out.trans (B6.mono b1.size)
        have hR6 := heap_lower B6 lz hR
        clear o1 o2 ow3 d1 g1 hf3 own4 hst own5 c0 c1 c2'
        go_wp2_with (at_builtin; go_must (refine wpList_appX Try.underlying27 Try.underlying27 hi0 hz0 hz1 hz2 rfl (by omega) (by omega) (.tmp 40) (.tmp 44) ?_ ?_ w1.heap.size (.slice a' m c') m (icells (Ch.freeInts (ls.take k) t)) a6 m6 c6 (icells (Ch.admitL (Ch.withoutH lhs t) (Ch.withoutH lqs t)).2.2) ?_ ?_ oi6 hc6 (icells_one' _) hsum hb6 ?_; exact rfl; exact rfl; exact rfl; exact rfl; intro a7 c7 w7 own7 gr7 at7))
        go_roundw
        case rel =>
          rw [← icells_append, ← HFG.out, ← HFI.out] at own7
          have ownL := own6.other gr7 hap6
          rw [← HFO.out, HFS.out] at ownL
          have b7 : Below w1.heap.size w6 w7 := (Below.refl _ _).mono hb6 |>.grown gr7 hb6 (fun g hg => (owns_lt oi6 g hg).1)
          refine ⟨k + 1, m + m6, a7, c7, vs6, by omega, by go_num, rfl, ownL, own7, fun g hg hmem => ?_, heap_lower b7 lz hR6, Nat.le_trans hb6 gr7.size, bT.trans (b7.mono b1.size)⟩
          rcases at7 g hg with h1 | h1
          · exact hap6 g h1 hmem
          · rw [List.mem_append] at hmem
            rcases hmem with h2 | h2
            · have := (owns_lt own6.row g (by simpa using h2)).2; omega
            · obtain ⟨i, q, hq, hgq⟩ := flat_mem h2
              have := (own6.bd hq hgq).2; omega
        case measure => simp [intOf]; omega
      · obtain rfl : k = n := by omega
        have HWF : Hid (ls.take k = ls) := by have := HL.out; show _ = _; rw [this]; exact List.take_length
        have HFA : Hid (Ch.freedTo ls t k = Ch.freeAll ls t) := by
          have := HL.out
          show _ = _
          unfold Ch.freedTo
          rw [HWF.out, List.drop_of_length_le (by omega), List.append_nil]
        rw [HWF.out] at oi
        rw [HFA.out] at own
        go_wp2_with fail
        refine (closeLocks_any w1.heap.size a2 k c2 (Ch.freeAll ls t) vs' _ own (by have := Ch.freeAll_size HG.out t; omega) hsz).mono ?_
        rintro e w3 ⟨a3, m3, c3, vs3, rfl, own3, hsub, hrow, b3⟩
        have hR3 := heap_below b3 hR
        obtain ⟨⟨x0, x1, x2, x3⟩, f0, f1, f2, f3⟩ := row4 hR3
        have lr3 := lt_of_cell x0
        have BW := hB.trans (b3.mono hB.size)
        have oi3 := owns_below oi b3
        have hwl : w.heap.size < w1.heap.size := lz
        go_wp2
        refine bodyPost_ret (v := .agg #[.int .i64 0, .bool false, .slice a' m c', .slice a3 m3 c3]) (by simp [results, Try.results22, go_sem, x0, x1, x2, x3]) rfl ⟨a', m, c', a3, m3, c3, vs3, rfl, ⟨?_, ?_, ?_, ?_, ?_⟩, ?_⟩
        · refine owns_base (base := w1.heap.size) (ownsRow_setCell_below (ownsRow_setCell_below (ownsRow_setCell_below (ownsRow_setCell_below oi3 ?_ _) ?_ _) ?_ _) ?_ _) (by omega)
          all_goals exact hwl
        · have hset : ∀ (W : World) (i : Nat) (u : Value), OwnK 104 W w1.heap.size (.slice a3 m3 c3) m3 ((Ch.freeAll ls t).filter Ch.usedL) vs3 → OwnK 104 (W.setCell ⟨w.heap.size, i, none⟩ u) w1.heap.size (.slice a3 m3 c3) m3 ((Ch.freeAll ls t).filter Ch.usedL) vs3 := fun W i u hh =>
            ⟨hh.len, hh.vlen, ownsRow_setCell_below hh.row hwl _, fun j p hp => ownsRow_setCell_below (hh.hs j p hp) hwl _, fun j p hp => ownsRow_setCell_below (hh.qs j p hp) hwl _, hh.apart⟩
          exact (hset _ _ _ (hset _ _ _ (hset _ _ _ (hset _ _ _ own3)))).base (by omega)
        · intro g hg hmem
          rw [List.mem_append] at hmem
          rcases hmem with h2 | h2
          · have := hrow g (by simpa using h2); have := (owns_lt oi g hg).2; omega
          · exact hap g hg (List.mem_append.2 (.inr ((sub_flat hsub).subset h2)))
        · have := hm20.out; have := hfew.out; omega
        · have := Ch.free_size HG.out t; show Ch.lkSize ((Ch.freeAll ls t).filter Ch.usedL) ≤ _; omega
        · exact (BW.setCell (p := ⟨w.heap.size, 0, none⟩) (Nat.le_refl _) _ |>.setCell (p := ⟨w.heap.size, 1, none⟩) (Nat.le_refl _) _ |>.setCell (p := ⟨w.heap.size, 2, none⟩) (Nat.le_refl _) _ |>.setCell (p := ⟨w.heap.size, 3, none⟩) (Nat.le_refl _) _)
  · rw [Ch.freeR_bad HC.out h0]
    clear HC
    go_enter Try.func22, Try.ntmps22
    go_wp2_with fail
    refine (IA _ (h.below (kA _))).mono ?_
    rintro e w1 ⟨rfl, b1⟩
    have hR := heap_below b1 (heap_alloc_new w _)
    have BW := below_box b1
    have lz := (Array.getElem?_eq_some_iff.1 hR).1
    obtain ⟨⟨x0, x1, x2, x3⟩, f0, f1, f2, f3⟩ := row4 hR
    go_wp2
    exact bodyPost_ret (v := .agg #[.int .i64 c, .bool false, .slice none 0 0, .slice none 0 0]) (by simp [results, Try.results22, go_sem, x0, x1, x2, x3]) rfl ⟨none, 0, 0, none, 0, 0, [], rfl, ⟨World.ownsRow_nil _ _ _ _, OwnK.nil _ _ _, fun g hg => by simp [Value.ownBlock] at hg, by omega, by simp [Ch.lkSize, Ch.lkSum]⟩, (BW.setCell (p := ⟨w.heap.size, 0, none⟩) (Nat.le_refl _) _ |>.setCell (p := ⟨w.heap.size, 1, none⟩) (Nat.le_refl _) _ |>.setCell (p := ⟨w.heap.size, 2, none⟩) (Nat.le_refl _) _ |>.setCell (p := ⟨w.heap.size, 3, none⟩) (Nat.le_refl _) _)⟩

end Go.Proofs.Ytbeolkklnlljcaa
