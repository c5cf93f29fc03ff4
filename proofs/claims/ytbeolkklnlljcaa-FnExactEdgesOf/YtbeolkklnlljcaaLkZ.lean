
/- ResOf of the model and of the program. -/
import Derived.Test.YtbeolkklnlljcaaLkX
import Derived.Test.YtbeolkklnlljcaaLkK
import Derived.Test.YtbeolkklnlljcaaDrawA
import Derived.Lib.SmallJoins
namespace Go.Proofs.Ytbeolkklnlljcaa
open Go.RowKit

/-- The resources that a transaction holds. -/
def Ch.resL (ls : List Ch.Lock) (t : Int) : List Int := (ls.filter fun l => Ch.hasH l.hs t).map (·.r)
def Ch.resR (ls : List Ch.Lock) (t : Int) : Int × List Int := if Ch.askedT ls t != 0 then (Ch.askedT ls t, []) else (0, Ch.resL ls t)
theorem Ch.resR_bad {ls : List Ch.Lock} {t c : Int} (h : Ch.askedT ls t = c) (h0 : c ≠ 0) : Ch.resR ls t = (c, []) := by
  unfold Ch.resR; rw [h, if_pos (by simpa using h0)]
theorem Ch.resR_ok {ls : List Ch.Lock} {t : Int} (h : Ch.askedT ls t = 0) : Ch.resR ls t = (0, Ch.resL ls t) := by
  unfold Ch.resR; rw [h]; rfl
theorem Ch.resL_yes {ls : List Ch.Lock} {t : Int} {k : Nat} (hk : k < ls.length) (h : Ch.hasH (Ch.lkAt ls k).hs t = true) : Ch.resL (ls.take (k + 1)) t = Ch.resL (ls.take k) t ++ [(Ch.lkAt ls k).r] := by
  unfold Ch.resL Ch.lkAt at *
  rw [Ch.take_snoc ls Ch.Lock.zero k hk, List.filter_append, List.map_append]
  generalize ls.getD k Ch.Lock.zero = l at *
  simp [h]
theorem Ch.resL_no {ls : List Ch.Lock} {t : Int} {k : Nat} (hk : k < ls.length) (h : Ch.hasH (Ch.lkAt ls k).hs t = false) : Ch.resL (ls.take (k + 1)) t = Ch.resL (ls.take k) t := by
  unfold Ch.resL Ch.lkAt at *
  rw [Ch.take_snoc ls Ch.Lock.zero k hk, List.filter_append, List.map_append]
  generalize ls.getD k Ch.Lock.zero = l at *
  simp [h]
theorem row2 {W : World} {g : Nat} {t : TypeId} {u0 u1 : Value} (h : W.heap[g]? = some (.cells #[u0, u1] t (0, 0))) :
    W.cell? ⟨g, 0, none⟩ = some u0 ∧ W.cell? ⟨g, 1, none⟩ = some u1 ∧ W.frozen? ⟨g, 0, none⟩ = false ∧ W.frozen? ⟨g, 1, none⟩ = false :=
  ⟨cell_of_row _ _ _ _ _ _ h, cell_of_row _ _ _ _ _ _ h, frz_of h, frz_of h⟩
theorem own_ne {w : World} {base : Nat} {e : TypeId} {size : Nat} {v : Value} {n : Nat} {xs : List Value} (h : w.ownsRow base e size v n xs) {b : Nat} (hb : b < base) : v.ownBlock ≠ some b := fun e => by
  have := (owns_lt h b e).1
  omega
theorem new_int (w : World) (r : Int) (t : TypeId) : CellsAt (w.alloc (.cells #[.int .i64 r] t)) (some ⟨w.heap.size, 0, none⟩) (1 * 1) (icells [r]) := by
  refine ⟨rfl, fun _ => ⟨_, _, rfl, fun i hi => ?_⟩⟩
  rw [Nat.zero_add]
  have := cell_of_row (w.alloc (.cells #[.int .i64 r] t)) _ i _ _ _ (heap_alloc_new w _)
  rw [this]
  simp [icells]
theorem heap_below {w w' : World} (hb : Below w.heap.size w w') {b : Nat} {o : Obj} (h : w.heap[b]? = some o) : w'.heap[b]? = some o :=
  (hb.block b (Array.getElem?_eq_some_iff.1 h).1).trans h

set_option linter.unusedSimpArgs false in
set_option maxRecDepth 20000 in
set_option maxHeartbeats 2000000 in
theorem implResOf_any (a : Option Addr) (n cap : Nat) (t : Int) (ls : List Ch.Lock) (w : World) (h : LkAt w a n ls) (hs : Ch.lkSize ls ≤ 1048576) :
    Calls Try.prog 24 #[.slice a n cap, .int .i64 t] w fun e w' => ∃ a' m c', e = .returned (.agg #[.int .i64 (Ch.resR ls t).1, .slice a' m c']) ∧ m ≤ 1048576 ∧ w'.ownsRow w.heap.size 2 1 (.slice a' m c') m (icells (Ch.resR ls t).2) ∧ Below w.heap.size w w' := by
  have IA := fun W hW => txnLocks_any a n cap t ls W hW hs
  have kA : ∀ o, Below w.heap.size w (w.alloc o) := fun o => (Below.refl _ _).alloc (Nat.le_refl _) o
  have HL := h.len
  have hn : n ≤ 1048576 := by unfold Ch.lkSize at hs; have := HL.out; omega
  obtain ⟨i0, hi0, hz0, hz1, hz2⟩ := info_parts Try.info2
  obtain ⟨c, HC⟩ : ∃ c, Hid (Ch.askedT ls t = c) := ⟨_, rfl⟩
  rw [HC.out] at IA
  by_cases h0 : c = 0
  · subst h0
    rw [Ch.resR_ok HC.out]
    clear HC
    go_enter Try.func24, Try.ntmps24
    go_wp2_with fail
    refine (IA _ (h.below (kA _))).mono ?_
    rintro e w1 ⟨rfl, b1⟩
    have hR := heap_below b1 (heap_alloc_new w _)
    have b1 := below_box b1
    have lz := (Array.getElem?_eq_some_iff.1 hR).1
    obtain ⟨x0, x1, f0, f1⟩ := row2 hR
    go_wp2
    go_loopw [18] (fun i wr => ∃ (k m : Nat) (a' : Option Addr) (c' : Nat), k ≤ n ∧ m ≤ k ∧ i = .int .i64 k ∧ wr.heap[w.heap.size]? = some (.cells #[.int .i64 0, .slice none 0 0] 41 (0, 0)) ∧ wr.heap[w1.heap.size]? = some (.cells #[.int .i64 0, .slice a' m c'] 41 (0, 0)) ∧ wr.ownsRow (w1.heap.size + 1) 2 1 (.slice a' m c') m (icells (Ch.resL (ls.take k) t)) ∧ w1.heap.size < wr.heap.size ∧ Below w.heap.size w wr) (fun i _ => n - (intOf i).toNat)
    case atStart => exact ⟨0, 0, none, 0, Nat.zero_le _, Nat.le_refl _, rfl, (heap_old' lz).trans hR, heap_alloc_new w1 _, World.ownsRow_nil _ _ _ _, by simp, b1.alloc b1.size _⟩
    case round =>
      clear hR x0 x1 f0 f1 IA
      obtain ⟨k, m, a', c', hk, hmk, rfl, hR, hX, own, hsz, hB⟩ := hrel
      obtain ⟨x0, x1, f0, f1⟩ := row2 hR
      obtain ⟨y0, y1, g0, g1⟩ := row2 hX
      have lr := (Array.getElem?_eq_some_iff.1 hR).1
      by_cases hlt : k < n
      · have hkl : k < ls.length := by have := HL.out; omega
        have HSz := hid (Ch.lk_one hs k)
        have HY := hid (fun he => Ch.resL_yes (t := t) hkl he)
        have HN := hid (fun he => Ch.resL_no (t := t) hkl he)
        obtain ⟨b, off, ah, nh, ch, aq, nq, cq, rfl, c0, c1, c2, h3, h4, _, _, _, _⟩ := (h.below hB).lock hlt
        have hH4 := h3.hlen
        have hnh : nh ≤ 1048576 := by have := HSz.out; have := hH4.out; omega
        have hbl := lt_of_cell c0
        generalize Ch.lkAt ls k = l at *
        obtain ⟨r, lhs, lqs⟩ := l
        simp only at c0 h3 h4 HY HN
        clear HSz hH4
        generalize Ch.resL (ls.take k) t = zs at *
        have hsum : m + 1 ≤ 4194304 := by omega
        have IH := fun W hW => has_any ah nh ch t lhs W hW hnh
        have kW : ∀ o, Below wr.heap.size wr (wr.alloc o) := fun o => (Below.refl _ _).alloc (Nat.le_refl _) o
        cases hh : Ch.hasH lhs t
        all_goals rw [hh] at IH
        all_goals
          go_wp2_with fail
          refine (IH _ (h3.below (kW _))).mono ?_
          rintro e w2 ⟨rfl, b2⟩
          have q0 := box_cell b2 0
          simp only [List.getElem?_toArray, List.getElem?_cons_zero] at q0
          have b2 := below_box b2
          have hR2 := heap_below b2 hR
          have hX2 := heap_below b2 hX
          have own2 := owns_below own b2
          have z2 := b2.size
          have b2' := hB.trans (b2.mono hB.size)
          clear hR hX own b2 x0 x1 f0 f1 y0 y1 g0 g1 c0 c1 c2
        · go_wp2
          go_roundw
          case rel => exact ⟨k + 1, m, a', c', by omega, by omega, by go_num, hR2, hX2, by rw [HN.out hh]; exact own2, by omega, b2'⟩
          case measure => simp [intOf]; omega
        · obtain ⟨y0, y1, g0, g1⟩ := row2 hX2
          have lq := lt_of_cell q0
          have ly := lt_of_cell y0
          have kQ : Below w2.heap.size w2 (w2.alloc (.cells #[.int .i64 r] 2)) := (Below.refl _ _).alloc (Nat.le_refl _) _
          have own3 := owns_below own2 kQ
          have hX3 := heap_below kQ hX2
          have hR3 := heap_below kQ hR2
          have hb3 : w1.heap.size + 1 ≤ (w2.alloc (.cells #[.int .i64 r] 2)).heap.size := by simp; omega
          go_wp2_with (at_builtin; go_must (refine wpList_appX Try.underlying27 Try.underlying27 hi0 hz0 hz1 hz2 rfl (by omega) (by omega) (.tmp 27) (.tmp 30) ?_ ?_ (w1.heap.size + 1) (.slice a' m c') m (icells zs) _ 1 1 (icells [r]) ?_ ?_ own3 (new_int w2 r 2) (icells_one' [r]) hsum hb3 ?_; exact rfl; exact rfl; exact rfl; exact rfl; intro a5 c5 w5 own5 gr5 at5; have hX5 := gr_heap gr5 hX3 (own_ne own3 (by omega)); have hR5 := gr_heap gr5 hR3 (own_ne own3 (by omega)); obtain ⟨v0, v1, e0, e1⟩ := row2 hX5; have lv := lt_of_cell v0))
          go_roundw
          case rel =>
            rw [← icells_append, ← HY.out hh] at own5
            have b3 := b2'.alloc b2'.size (.cells #[.int .i64 r] 2)
            have b5 := b3.grown gr5 b3.size (fun g hg => by have := (owns_lt own3 g hg).1; omega)
            refine ⟨k + 1, m + 1, a5, c5, by omega, by omega, by go_num, ?_, ?_, ?_, ?_, b5.setCell (p := ⟨w1.heap.size, 1, none⟩) (by show w.heap.size ≤ w1.heap.size; omega) _⟩
            · exact (Below.heap_setCell _ _ _ _ (by show w.heap.size ≠ w1.heap.size; omega)).trans hR5
            · have := Joins.block_setCell (i := 1) hX5 (.slice a5 (m + 1) c5)
              simpa using this
            · exact ownsRow_setCell_below own5 (by show w1.heap.size < w1.heap.size + 1; omega) _
            · have := gr5.size; simp at this ⊢; omega
          case measure => simp [intOf]; omega
      · obtain rfl : k = n := by omega
        have HWF : Hid (ls.take k = ls) := by have := HL.out; show _ = _; rw [this]; exact List.take_length
        rw [HWF.out] at own
        go_wp2
        refine bodyPost_ret (v := .agg #[.int .i64 0, .slice a' m c']) (by simp [results, Try.results24, go_sem, x0, x1]) rfl ⟨a', m, c', rfl, by omega, ?_, ?_⟩
        · refine owns_base (base := w1.heap.size + 1) (ownsRow_setCell_below (ownsRow_setCell_below own ?_ _) ?_ _) (by omega)
          · show w.heap.size < w1.heap.size + 1; omega
          · show w.heap.size < w1.heap.size + 1; omega
        · exact (hB.setCell (p := ⟨w.heap.size, 0, none⟩) (Nat.le_refl _) _).setCell (p := ⟨w.heap.size, 1, none⟩) (Nat.le_refl _) _
  · rw [Ch.resR_bad HC.out h0]
    clear HC
    go_enter Try.func24, Try.ntmps24
    go_wp2_with fail
    refine (IA _ (h.below (kA _))).mono ?_
    rintro e w1 ⟨rfl, b1⟩
    have hR := heap_below b1 (heap_alloc_new w _)
    have b1 := below_box b1
    have lz := (Array.getElem?_eq_some_iff.1 hR).1
    obtain ⟨x0, x1, f0, f1⟩ := row2 hR
    go_wp2
    exact bodyPost_ret (v := .agg #[.int .i64 c, .slice none 0 0]) (by simp [results, Try.results24, go_sem, x0, x1]) rfl ⟨none, 0, 0, rfl, by omega, World.ownsRow_nil _ _ _ _, (b1.setCell (p := ⟨w.heap.size, 0, none⟩) (Nat.le_refl _) _).setCell (p := ⟨w.heap.size, 1, none⟩) (Nat.le_refl _) _⟩

end Go.Proofs.Ytbeolkklnlljcaa
