
/- Locks that are opened and closed by the program. -/
import Derived.Test.YtbeolkklnlljcaaLkC
import Derived.Test.YtbeolkklnlljcaaLkX
namespace Go.Proofs.Ytbeolkklnlljcaa
open Go.RowKit

theorem Try.info98 : (Try.prog.info? 98).map (fun i => (i.zero, i.size, i.bytes)) = some (some (.agg #[.int .i64 0, .slice none 0 0, .slice none 0 0]), 3, 56) := by kernel_rfl

theorem copied_any (a : Option Addr) (n cap : Nat) (hs : List Ch.Hold) (w : World) (h : CellsAt w a (n * 2) (hcells hs)) (hn : n ≤ 1048576) :
    Calls Try.prog 113 #[.slice a n cap] w fun e w' => ∃ a' c', e = .returned (.slice a' n c') ∧ w'.ownsRow w.heap.size 120 2 (.slice a' n c') n (hcells hs) ∧ Below w.heap.size w w' := by
  obtain ⟨i0, hi0, hz0, hz1, hz2⟩ := info_parts Try.info120
  go_enter Try.func113, Try.ntmps113
  go_wp2_with (at_builtin; go_must (refine wpList_appX Try.underlying94 Try.underlying94 hi0 hz0 hz1 hz2 rfl (by omega) (by omega) (.const (.slice none 0 0)) (.tmp 3) ?_ ?_ w.heap.size (.slice none 0 0) 0 [] a n cap (hcells hs) ?_ ?_ (World.ownsRow_nil _ _ _ _) h (hcells_one' hs) (by omega) (Nat.le_refl _) ?_; exact rfl; exact rfl; exact rfl; exact rfl; intro a5 c5 w5 own5 gr5 at5))
  go_ret
  simp only [Nat.zero_add, List.nil_append] at own5 ⊢
  exact ⟨a5, c5, rfl, own5, (Below.refl _ _).grown gr5 (Nat.le_refl _) (fun g hg => by simp [Value.ownBlock] at hg)⟩

theorem new_lock (w : World) (r : Int) (ah : Option Addr) (nh ch : Nat) (aq : Option Addr) (nq cq : Nat) (t : TypeId) : CellsAt (w.alloc (.cells #[.int .i64 r, .slice ah nh ch, .slice aq nq cq] t)) (some ⟨w.heap.size, 0, none⟩) (1 * 3) [.int .i64 r, .slice ah nh ch, .slice aq nq cq] := by
  refine ⟨rfl, fun _ => ⟨_, _, rfl, fun i hi => ?_⟩⟩
  rw [Nat.zero_add]
  have := cell_of_row (w.alloc (.cells #[.int .i64 r, .slice ah nh ch, .slice aq nq cq] t)) _ i _ _ _ (heap_alloc_new w _)
  rw [this]
  simp
theorem lock_one' (r : Int) (ah : Option Addr) (nh ch : Nat) (aq : Option Addr) (nq cq : Nat) : ∀ u ∈ [Value.int .i64 r, .slice ah nh ch, .slice aq nq cq], u.oneCell' = true := by
  intro u hu
  simp at hu
  rcases hu with rfl | rfl | rfl <;> rfl

set_option linter.unusedSimpArgs false in
set_option maxRecDepth 20000 in
set_option maxHeartbeats 4000000 in
theorem openLocks_any (a : Option Addr) (n cap : Nat) (ls : List Ch.Lock) (w : World) (h : LkAt w a n ls) (hs : Ch.lkSize ls ≤ 1048576) :
    Calls Try.prog 66 #[.slice a n cap] w fun e w' => ∃ a' c', e = .returned (.slice a' n c') ∧ OwnLk 98 w' w.heap.size (.slice a' n c') n ls ∧ Below w.heap.size w w' := by
  have HL := h.len
  have hn : n ≤ 1048576 := by unfold Ch.lkSize at hs; have := HL.out; omega
  obtain ⟨i0, hi0, hz0, hz1, hz2⟩ := info_parts Try.info98
  go_enter Try.func66, Try.ntmps66
  go_wp2
  go_loopw [3, 8] (fun q i wr => ∃ (k : Nat) (a' : Option Addr) (c' : Nat), k ≤ n ∧ i = .int .i64 k ∧ q = .slice a' k c' ∧ OwnLk 98 wr w.heap.size (.slice a' k c') k (ls.take k) ∧ Below w.heap.size w wr) (fun _ i _ => n - (intOf i).toNat)
  case atStart => exact ⟨0, none, 0, Nat.zero_le _, rfl, rfl, ⟨[], OwnK.nil _ _ _⟩, Below.refl _ _⟩
  case round =>
    obtain ⟨k, a', c', hk, rfl, rfl, ⟨vs, own⟩, hB⟩ := hrel
    by_cases hlt : k < n
    · have hkl : k < ls.length := by have := HL.out; omega
      have HSz := hid (Ch.lk_one hs k)
      have HT := hid (Ch.take_snoc ls Ch.Lock.zero k hkl)
      obtain ⟨b, off, ah, nh, ch, aq, nq, cq, rfl, c0, c1, c2, h3, h4, _, _, _, _⟩ := (h.below hB).lock hlt
      have hH4 := h3.hlen
      have hQ4 := h4.hlen
      have hnh : nh ≤ 1048576 := by have := HSz.out; have := hH4.out; omega
      have hnq : nq ≤ 1048576 := by have := HSz.out; have := hQ4.out; omega
      have hbl := lt_of_cell c0
      rw [show ls.getD k Ch.Lock.zero = Ch.lkAt ls k from rfl] at HT
      generalize Ch.lkAt ls k = l at *
      obtain ⟨r, lhs, lqs⟩ := l
      simp only at c0 h3 h4 hH4 hQ4
      have kX : Below wr.heap.size wr (wr.alloc (.cells #[.int .i64 r, .slice ah nh ch, .slice aq nq cq] 104)).drew := ((Below.refl _ _).alloc (Nat.le_refl _) _).drew
      have hsum : k + 1 ≤ 4194304 := by omega
      have y0 : (wr.alloc (.cells #[.int .i64 r, .slice ah nh ch, .slice aq nq cq] 104)).cell? ⟨wr.heap.size, 0, none⟩ = some (.int .i64 r) := by simp [go_sem]
      have y1 : (wr.alloc (.cells #[.int .i64 r, .slice ah nh ch, .slice aq nq cq] 104)).cell? ⟨wr.heap.size, 1, none⟩ = some (.slice ah nh ch) := by simp [go_sem]
      have y2 : (wr.alloc (.cells #[.int .i64 r, .slice ah nh ch, .slice aq nq cq] 104)).cell? ⟨wr.heap.size, 2, none⟩ = some (.slice aq nq cq) := by simp [go_sem]
      clear HSz
      go_wp2_with fail
      refine wp_region_noPanic ?_
      refine wp_region_held_drew (S := fun W' => W'.cell? ⟨wr.heap.size, 0, none⟩ = some (.int .i64 r) ∧ W'.cell? ⟨wr.heap.size, 1, none⟩ = some (.slice ah nh ch) ∧ W'.cell? ⟨wr.heap.size, 2, none⟩ = some (.slice aq nq cq)) (by kernel_rfl) (⟨y0, y1, y2⟩) (fun hH => ?_)
      refine hTake (i := 0) (v := ?_) rfl (by kernel_rfl) (by kernel_rfl) (by kernel_rfl) (by rfl) ?_ hH ?_
      rotate_left
      · intro W hW; (try dsimp only at hW); go_simp <;> with_reducible rfl
      simp only [Act.put, List.setIfInBounds_toArray, List.set_cons_zero, List.set_cons_succ]
      refine hTake (i := 1) (v := ?_) rfl (by kernel_rfl) (by kernel_rfl) (by kernel_rfl) (by rfl) ?_ hH ?_
      rotate_left
      · intro W hW; (try dsimp only at hW); go_simp <;> with_reducible rfl
      simp only [Act.put, List.setIfInBounds_toArray, List.set_cons_zero, List.set_cons_succ]
      refine hTake (i := 2) (v := ?_) rfl (by kernel_rfl) (by kernel_rfl) (by kernel_rfl) (by rfl) ?_ hH ?_
      rotate_left
      · intro W hW; (try dsimp only at hW); go_simp <;> with_reducible rfl
      simp only [Act.put, List.setIfInBounds_toArray, List.set_cons_zero, List.set_cons_succ]
      refine hTake (i := 3) (v := ?_) rfl (by kernel_rfl) (by kernel_rfl) (by kernel_rfl) (by rfl) ?_ hH ?_
      rotate_left
      · intro W hW; (try dsimp only at hW); go_simp <;> with_reducible rfl
      simp only [Act.put, List.setIfInBounds_toArray, List.set_cons_zero, List.set_cons_succ]
      refine hTake (i := 4) (v := ?_) rfl (by kernel_rfl) (by kernel_rfl) (by kernel_rfl) (by rfl) ?_ hH ?_
      rotate_left
      · intro W hW; (try dsimp only at hW); go_simp <;> with_reducible rfl
      simp only [Act.put, List.setIfInBounds_toArray, List.set_cons_zero, List.set_cons_succ]
      refine hTake (i := 6) (v := ?_) rfl (by kernel_rfl) (by kernel_rfl) (by kernel_rfl) (by rfl) ?_ hH ?_
      rotate_left
      · intro W hW; (try dsimp only at hW); go_simp <;> with_reducible rfl
      simp only [Act.put, List.setIfInBounds_toArray, List.set_cons_zero, List.set_cons_succ]
      refine hTake (i := 7) (v := ?_) rfl (by kernel_rfl) (by kernel_rfl) (by kernel_rfl) (by rfl) ?_ hH ?_
      rotate_left
      · intro W hW; (try dsimp only at hW); go_simp <;> with_reducible rfl
      simp only [Act.put, List.setIfInBounds_toArray, List.set_cons_zero, List.set_cons_succ]
      refine wpAnyH_ready (rs := [5]) (by kernel_rfl) (by simp) ?_
      refine AllReadyH.cons rfl (fun K hK => ?_) AllReadyH.nil
      go_simp
      refine (copied_any ah nh ch lhs _ (h3.below kX) hnh).mono ?_
      rintro e w2 ⟨a1, c1', rfl, o1, b1⟩
      go_wp2_with fail
      refine hK.out _ _ ⟨keep_cell b1 hH.1, keep_cell b1 hH.2.1, keep_cell b1 hH.2.2⟩ (fun hH => ?_)
      clear hK K
      refine wpAnyH_ready (rs := [8]) (by kernel_rfl) (by simp) ?_
      refine AllReadyH.cons rfl (fun K hK => ?_) AllReadyH.nil
      go_simp
      refine (copied_any aq nq cq lqs _ (h4.below (kX.trans (b1.mono kX.size))) hnq).mono ?_
      rintro e w3 ⟨a2, c2', rfl, o2, b2⟩
      go_wp2_with fail
      refine hK.out _ _ ⟨keep_cell b2 hH.1, keep_cell b2 hH.2.1, keep_cell b2 hH.2.2⟩ (fun hH => ?_)
      clear hK K
      refine hTake (i := 9) (v := ?_) rfl (by kernel_rfl) (by kernel_rfl) (by kernel_rfl) (by rfl) ?_ hH ?_
      rotate_left
      · intro W hW; (try dsimp only at hW); go_simp <;> with_reducible rfl
      simp only [Act.put, List.setIfInBounds_toArray, List.set_cons_zero, List.set_cons_succ]
      have bX : Below wr.heap.size wr w3 := (kX.trans (b1.mono kX.size)).trans (b2.mono (Nat.le_trans kX.size b1.size))
      have hxy : ∀ g, (Value.slice a1 nh c1').ownBlock = some g → (Value.slice a2 nq c2').ownBlock ≠ some g := fun g h1 h2 => by have := (owns_lt o1 g h1).2; have := (owns_lt o2 g h2).1; omega
      have o1 := owns_base (owns_below o1 b2) (base' := wr.heap.size) kX.size
      have o2 := owns_base o2 (base' := wr.heap.size) (Nat.le_trans kX.size b1.size)
      refine wpAnyH_ready (rs := [10]) (by kernel_rfl) (by simp) ?_
      refine AllReadyH.cons rfl (fun K hK => ?_) AllReadyH.nil
      go_simp
      refine (viewLock_any r a1 nh c1' a2 nq c2' _).mono ?_
      rintro e w4 ⟨rfl, b4⟩
      have z4 := b4.size
      go_wp2_with fail
      refine hK.out _ _ ⟨keep_cell b4 hH.1, keep_cell b4 hH.2.1, keep_cell b4 hH.2.2⟩ (fun hH => ?_)
      clear hK K
      have o1 := owns_below o1 b4
      have o2 := owns_below o2 b4
      have bX4 := bX.trans (b4.mono bX.size)
      have kN : Below w4.heap.size w4 (w4.alloc (.cells #[.int .i64 r, .slice a1 nh c1', .slice a2 nq c2'] 98)) := (Below.refl _ _).alloc (Nat.le_refl _) _
      refine wpAnyH_ready (rs := [11]) (by kernel_rfl) (by simp) ?_
      refine AllReadyH.cons rfl (fun K hK => ?_) AllReadyH.nil
      go_simp
      refine hK.out _ _ ⟨keep_cell kN hH.1, keep_cell kN hH.2.1, keep_cell kN hH.2.2⟩ (fun hH => ?_)
      clear hK K
      have bX5 := bX4.trans (kN.mono bX4.size)
      have ownP := own.below bX5
      have o1 := owns_below o1 kN
      have o2 := owns_below o2 kN
      have hb5 : w.heap.size ≤ (w4.alloc (.cells #[.int .i64 r, .slice a1 nh c1', .slice a2 nq c2'] 98)).heap.size := Nat.le_trans hB.size bX5.size
      have hrb : (Value.slice a' k c').ownBlock ≠ some wr.heap.size := fun e => by have := (owns_lt own.row _ e).2; omega
      refine wpAnyH_ready (rs := [12]) (by kernel_rfl) (by simp) ?_
      refine AllReadyH.cons rfl (fun K hK => ?_) AllReadyH.nil
      refine step_appX Try.underlying88 Try.underlying88 hi0 hz0 hz1 hz2 rfl (by omega) (by omega) (.tmp 12) (.tmp 23) rfl rfl w.heap.size (.slice a' k c') k (lcells (ls.take k) vs) _ 1 1 [.int .i64 r, .slice a1 nh c1', .slice a2 nq c2'] rfl rfl ownP.row (new_lock w4 r a1 nh c1' a2 nq c2' _) (lock_one' r a1 nh c1' a2 nq c2') hsum hb5 ?_
      intro a6 c6 w6 own6 gr6 at6
      refine hK.out _ _ ⟨grown_cell gr6 hH.1 hrb, grown_cell gr6 hH.2.1 hrb, grown_cell gr6 hH.2.2 hrb⟩ (fun hH => ?_)
      clear hK K
      simp only [Act.put, List.setIfInBounds_toArray, List.set_cons_zero, List.set_cons_succ]
      refine hTake (i := 13) (v := ?_) rfl (by kernel_rfl) (by kernel_rfl) (by kernel_rfl) (by rfl) ?_ hH ?_
      rotate_left
      · intro W hW; (try dsimp only at hW); go_simp <;> with_reducible rfl
      simp only [Act.put, List.setIfInBounds_toArray, List.set_cons_zero, List.set_cons_succ]
      refine wpAnyH_done (by kernel_rfl) ?_ _
      refine NoPanic.normal ?_
      go_wp2
      go_roundw
      case rel =>
        have hw : wr.heap.size ≤ (w4.alloc (.cells #[.int .i64 r, .slice a1 nh c1', .slice a2 nq c2'] 98)).heap.size := bX5.size
        have hap := apart_snoc (x := .slice a1 nh c1') (y := .slice a2 nq c2') (H := wr.heap.size) own.apart (fun g hg => (owns_lt own.row g hg).2) (fun i q hq g hg => (own.bd hq hg).2) hxy (fun g hg => (owns_lt o1 g hg).1) (fun g hg => (owns_lt o2 g hg).1)
        refine ⟨k + 1, a6, c6, by omega, by go_num, rfl, ⟨vs ++ [(.slice a1 nh c1', .slice a2 nq c2')], ?_⟩, ?_⟩
        · rw [HT.out]
          exact ownP.snoc (l := ⟨r, lhs, lqs⟩) own6 gr6 at6 (by simp only; rw [← hH4.out]; exact owns_base o1 hB.size) (by simp only; rw [← hQ4.out]; exact owns_base o2 hB.size) hap
        · have b5 := hB.trans (bX5.mono hB.size)
          exact b5.grown gr6 b5.size (fun g hg => (owns_lt ownP.row g hg).1)
      case measure => simp [intOf]; omega
    · obtain rfl : k = n := by omega
      have HWF : Hid (ls.take k = ls) := by have := HL.out; show _ = _; rw [this]; exact List.take_length
      rw [HWF.out] at own
      go_wp2
      go_ret
      exact ⟨a', c', rfl, ⟨vs, own⟩, hB⟩

/-- Locks that somebody holds or waits for. -/
def Ch.usedL (l : Ch.Lock) : Bool := !(l.hs.length + l.qs.length == 0)
theorem sub_flat {vs vs' : List (Value × Value)} (h : vs'.Sublist vs) : (vs'.flatMap blks).Sublist (vs.flatMap blks) := by
  induction h with
  | slnil => exact List.Sublist.refl _
  | cons a _ ih => rw [List.flatMap_cons]; exact ih.trans (List.sublist_append_right _ _)
  | cons_cons a _ ih => rw [List.flatMap_cons, List.flatMap_cons]; exact (List.Sublist.refl _).append ih
theorem Ch.used_yes {ls : List Ch.Lock} {k : Nat} (hk : k < ls.length) (h : Ch.usedL (Ch.lkAt ls k) = true) : (ls.take (k + 1)).filter Ch.usedL = (ls.take k).filter Ch.usedL ++ [Ch.lkAt ls k] := by
  unfold Ch.lkAt at *
  rw [Ch.take_snoc ls Ch.Lock.zero k hk, List.filter_append]
  generalize ls.getD k Ch.Lock.zero = l at *
  simp [h]
theorem Ch.used_no {ls : List Ch.Lock} {k : Nat} (hk : k < ls.length) (h : Ch.usedL (Ch.lkAt ls k) = false) : (ls.take (k + 1)).filter Ch.usedL = (ls.take k).filter Ch.usedL := by
  unfold Ch.lkAt at *
  rw [Ch.take_snoc ls Ch.Lock.zero k hk, List.filter_append]
  generalize ls.getD k Ch.Lock.zero = l at *
  simp [h]
theorem take_next {vs : List (Value × Value)} {k : Nat} {p : Value × Value} (hp : vs[k]? = some p) : vs.take (k + 1) = vs.take k ++ [p] := by
  have hk : k < vs.length := (List.getElem?_eq_some_iff.1 hp).1
  rw [List.take_succ_eq_append_getElem hk]
  have : vs[k] = p := by simpa [List.getElem?_eq_getElem hk] using hp
  rw [this]

set_option maxRecDepth 20000 in
set_option maxHeartbeats 4000000 in
theorem closeLocks_any (B : Nat) (a : Option Addr) (n cap : Nat) (ls : List Ch.Lock) (vs : List (Value × Value)) (w : World) (h : OwnK 98 w B (.slice a n cap) n ls vs) (hs : Ch.lkSize ls ≤ 1048576) (hBw : B ≤ w.heap.size) :
    Calls Try.prog 68 #[.slice a n cap] w fun e w' => ∃ a' m c' vs', e = .returned (.slice a' m c') ∧ OwnK 104 w' B (.slice a' m c') m (ls.filter Ch.usedL) vs' ∧ vs'.Sublist vs ∧ (∀ g, (Value.slice a' m c').ownBlock = some g → w.heap.size ≤ g) ∧ Below w.heap.size w w' := by
  have HL : Hid (ls.length = n) := h.len
  have hn : n ≤ 1048576 := by unfold Ch.lkSize at hs; have := HL.out; omega
  have hbd := fun i p (hp : vs[i]? = some p) g hg => h.bd hp (g := g) hg
  obtain ⟨i0, hi0, hz0, hz1, hz2⟩ := info_parts Try.info104
  go_enter Try.func68, Try.ntmps68
  go_wp2
  go_loopw [3, 8] (fun q i wr => ∃ (k m : Nat) (a' : Option Addr) (c' : Nat) (vs' : List (Value × Value)), k ≤ n ∧ m ≤ k ∧ i = .int .i64 k ∧ q = .slice a' m c' ∧ OwnK 104 wr B (.slice a' m c') m ((ls.take k).filter Ch.usedL) vs' ∧ vs'.Sublist (vs.take k) ∧ (∀ g, (Value.slice a' m c').ownBlock = some g → w.heap.size ≤ g) ∧ Below w.heap.size w wr) (fun _ i _ => n - (intOf i).toNat)
  case atStart => exact ⟨0, 0, none, 0, [], Nat.zero_le _, Nat.le_refl _, rfl, rfl, OwnK.nil _ _ _, List.Sublist.refl _, fun g hg => by simp [Value.ownBlock] at hg, Below.refl _ _⟩
  case round =>
    obtain ⟨k, m, a', c', vs', hk, hmk, rfl, rfl, own, hsub, hrb, hB⟩ := hrel
    by_cases hlt : k < n
    · have hkl : k < ls.length := by have := HL.out; omega
      have HSz := hid (Ch.lk_one hs k)
      have HY := hid (fun he => Ch.used_yes hkl he)
      have HN := hid (fun he => Ch.used_no hkl he)
      obtain ⟨p, hp⟩ := h.got hlt
      have HTN := hid (take_next hp)
      have hat := lcells_at (ls := ls) (by rw [h.len, h.vlen]) hp
      have hrow := owns_below h.row hB
      obtain ⟨o, rfl⟩ := h.rowAt hlt
      have c0 := (hrow.cellAt (k * 3) (by omega)).trans hat.1
      have c1 := (hrow.cellAt (k * 3 + 1) (by omega)).trans hat.2.1
      have c2 := (hrow.cellAt (k * 3 + 2) (by omega)).trans hat.2.2
      have o1 := owns_below (h.hs k p hp) hB
      have o2 := owns_below (h.qs k p hp) hB
      have hpb := hbd k p hp
      have hpv := fun g (hg : g ∈ blks p) (e : (Value.slice (some ⟨o, 0, none⟩) n cap).ownBlock = some g) => apart_row h.apart hp e hg
      have hfl := (List.nodup_append.1 h.apart).2.1
      clear hat hrow
      obtain ⟨x, y⟩ := p
      obtain ⟨ah, ch, ex⟩ := owns_shape o1
      obtain ⟨aq, cq, ey⟩ := owns_shape o2
      simp only at ex ey o1 o2 c1 c2
      subst ex ey
      have hol := lt_of_cell c0
      generalize Ch.lkAt ls k = l at *
      obtain ⟨r, lhs, lqs⟩ := l
      simp only at HSz HY HN o1 o2 c0 c1 c2 hpb
      obtain ⟨nh, HNH⟩ : ∃ nh, Hid (lhs.length = nh) := ⟨_, rfl⟩
      obtain ⟨nq, HNQ⟩ : ∃ nq, Hid (lqs.length = nq) := ⟨_, rfl⟩
      have HUS : Hid (Ch.usedL ⟨r, lhs, lqs⟩ = !(nh + nq == 0)) := by show _ = _; unfold Ch.usedL; simp only; rw [HNH.out, HNQ.out]
      rw [HNH.out] at o1 c1 HSz hpb hp HTN
      rw [HNQ.out] at o2 c2 HSz hpb hp HTN
      have hsum : m + 1 ≤ 4194304 := by omega
      have kW : ∀ o, Below wr.heap.size wr (wr.alloc o) := fun o => (Below.refl _ _).alloc (Nat.le_refl _) o
      have UN := fun u hu W => isUnused_at r ah nh ch aq nq cq u hu W
      cases hu : (nh + nq == 0)
      all_goals rw [hu] at HUS
      all_goals
        go_wp2_with fail
        refine (UN _ hu _).mono ?_
        rintro e w2 ⟨rfl, b2⟩
        have x0 := box_cell b2 0
        have x1 := box_cell b2 1
        have x2 := box_cell b2 2
        simp only [List.getElem?_toArray, List.getElem?_cons_zero, List.getElem?_cons_succ] at x0 x1 x2
        have b2 := below_box b2
        have b2' := hB.trans (b2.mono hB.size)
        have z2 := b2.size
        clear c0 c1 c2
      · have kN : Below w2.heap.size w2 (w2.alloc (.cells #[.int .i64 r, .slice ah nh ch, .slice aq nq cq] 104)) := (Below.refl _ _).alloc (Nat.le_refl _) _
        have bN := b2.trans (kN.mono b2.size)
        have ownP := own.below bN
        have hb5 : B ≤ (w2.alloc (.cells #[.int .i64 r, .slice ah nh ch, .slice aq nq cq] 104)).heap.size := Nat.le_trans hBw (Nat.le_trans b2'.size kN.size)
        have lx := lt_of_cell x0
        go_wp2_with (at_builtin; go_must (refine wpList_appX Try.underlying24 Try.underlying24 hi0 hz0 hz1 hz2 rfl (by omega) (by omega) (.tmp 15) (.tmp 24) ?_ ?_ B (.slice a' m c') m (lcells ((ls.take k).filter Ch.usedL) vs') _ 1 1 [.int .i64 r, .slice ah nh ch, .slice aq nq cq] ?_ ?_ ownP.row (new_lock w2 r ah nh ch aq nq cq _) (lock_one' r ah nh ch aq nq cq) hsum hb5 ?_; exact rfl; exact rfl; exact rfl; exact rfl; intro a5 c5 w5 own5 gr5 at5))
        go_roundw
        case rel =>
          have hsub' : (vs' ++ [(Value.slice ah nh ch, Value.slice aq nq cq)]).Sublist (vs.take (k + 1)) := by rw [HTN.out]; exact hsub.append (List.Sublist.refl _)
          have hnd : ((Value.slice a' m c').ownBlock.toList ++ (vs' ++ [(Value.slice ah nh ch, Value.slice aq nq cq)]).flatMap blks).Nodup := by
            rw [List.nodup_append]
            refine ⟨?_, List.Nodup.sublist (sub_flat (hsub'.trans (List.take_sublist _ _))) hfl, fun g1 hg1 g2 hg2 e => ?_⟩
            · cases (Value.slice a' m c').ownBlock <;> simp
            · subst e
              have hge := hrb g1 (by simpa using hg1)
              have hin := (sub_flat (hsub'.trans (List.take_sublist _ _))).subset hg2
              obtain ⟨i, q, hq, hgq⟩ := flat_mem hin
              have := (hbd i q hq g1 hgq).2
              omega
          refine ⟨k + 1, m + 1, a5, c5, _, by omega, by omega, by go_num, rfl, ?_, hsub', ?_, ?_⟩
          · rw [HY.out HUS.out]
            exact ownP.snoc (l := ⟨r, lhs, lqs⟩) own5 gr5 at5 (by simp only; rw [HNH.out]; exact owns_below o1 bN) (by simp only; rw [HNQ.out]; exact owns_below o2 bN) hnd
          · intro g hg
            rcases at5 g hg with h1 | h1
            · exact hrb g h1
            · have := kN.size; have := b2'.size; omega
          · have b3 := b2'.trans (kN.mono b2'.size)
            exact b3.grown gr5 b3.size (fun g hg => hrb g hg)
        case measure => simp [intOf]; omega
      · go_wp2
        go_roundw
        case rel => exact ⟨k + 1, m, a', c', vs', by omega, by omega, by go_num, rfl, by rw [HN.out HUS.out]; exact own.below b2, by rw [HTN.out]; exact hsub.trans (List.sublist_append_left _ _), hrb, b2'⟩
        case measure => simp [intOf]; omega
    · obtain rfl : k = n := by omega
      have HWF : Hid (ls.take k = ls) := by have := HL.out; show _ = _; rw [← this]; exact List.take_length
      rw [HWF.out] at own
      go_wp2
      go_ret
      exact ⟨a', m, c', vs', rfl, own, hsub.trans (List.take_sublist _ _), hrb, hB⟩

end Go.Proofs.Ytbeolkklnlljcaa
