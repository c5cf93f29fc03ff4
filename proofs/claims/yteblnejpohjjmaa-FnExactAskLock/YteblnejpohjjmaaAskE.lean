/- l6Copy. -/
import Derived.Test.YteblnejpohjjmaaAskZ
import Derived.Test.YteblnejpohjjmaaLkFr
namespace Go.Proofs.Yteblnejpohjjmaa
open Go.RowKit

theorem alloc_empty (V : World) (e : TypeId) (size : Nat) : (V.alloc (.cells #[] e)).ownsRow V.heap.size e size (.slice (some ⟨V.heap.size, 0, none⟩) 0 0) 0 [] ∧ Below V.heap.size V (V.alloc (.cells #[] e)) ∧ V.heap.size < (V.alloc (.cells #[] e)).heap.size :=
  ⟨empty_own V _ e size (Nat.le_refl _), (Below.refl _ _).alloc (Nat.le_refl _) _, by rw [World.size_alloc]; omega⟩

set_option linter.unusedSimpArgs false in
set_option maxRecDepth 20000 in
set_option maxHeartbeats 2000000 in
theorem l6Copy_any (a : Option Addr) (n cap : Nat) (ls : List Ch.Lock) (w : World) (h : LkAt w a n ls) (hs : Ch.lkSize ls ≤ 1048576) :
    Calls Try.prog 91 #[.slice a n cap] w fun e w' => ∃ o c', e = .returned (.slice (some ⟨o, 0, none⟩) n c') ∧ OwnLk 83 w' w.heap.size (.slice (some ⟨o, 0, none⟩) n c') n ls ∧ Below w.heap.size w w' := by
  have HL := h.len
  have hn : n ≤ 1048576 := by unfold Ch.lkSize at hs; have := HL.out; omega
  obtain ⟨i0, hi0, hz0, hz1, hz2⟩ := info_parts Try.info83
  obtain ⟨j0, gi0, gz0, gz1, gz2⟩ := info_parts Try.info110
  go_enter Try.func91, Try.ntmps91
  go_wp2
  go_loopw [3, 4] (fun q i wr => ∃ (k : Nat) (a' : Option Addr) (c' : Nat), k ≤ n ∧ i = .int .i64 k ∧ q = .slice a' k c' ∧ (∃ o, a' = some ⟨o, 0, none⟩) ∧ OwnLk 83 wr w.heap.size (.slice a' k c') k (ls.take k) ∧ Below w.heap.size w wr) (fun _ i _ => n - (intOf i).toNat)
  case atStart => exact ⟨0, _, 0, Nat.zero_le _, rfl, rfl, ⟨_, rfl⟩, ⟨[], ⟨rfl, rfl, empty_own w _ _ _ (Nat.le_refl _), fun i p hp => by simp at hp, fun i p hp => by simp at hp, by simp [Value.ownBlock]⟩⟩, (Below.refl _ _).alloc (Nat.le_refl _) _⟩
  case round =>
    obtain ⟨k, a', c', hk, rfl, rfl, HSO, ⟨vs, own⟩, hB⟩ := hrel
    have HSO := hid HSO
    by_cases hlt : k < n
    · have hkl : k < ls.length := by have := HL.out; omega
      have HSz := hid (Ch.lk_one hs k)
      have HT := hid (Ch.take_snoc ls Ch.Lock.zero k hkl)
      obtain ⟨b, off, ah, nh, ch, aq, nq, cq, rfl, c0, c1, c2, h3, h4, _, _, _, _⟩ := h.lock hlt
      have hbl := lt_of_cell c0
      have c0 := keep_cell hB c0
      have c1 := keep_cell hB c1
      have c2 := keep_cell hB c2
      have h3 := h3.below hB
      have h4 := h4.below hB
      have hH4 := h3.hlen
      have hQ4 := h4.hlen
      have hnh : nh ≤ 1048576 := by have := HSz.out; have := hH4.out; omega
      have hnq : nq ≤ 1048576 := by have := HSz.out; have := hQ4.out; omega
      have hbs : w.heap.size ≤ wr.heap.size := hB.size
      rw [show ls.getD k Ch.Lock.zero = Ch.lkAt ls k from rfl] at HT
      generalize Ch.lkAt ls k = l at *
      obtain ⟨r, lhs, lqs⟩ := l
      simp only at c0 h3 h4 hH4 hQ4
      have hsum : k + 1 ≤ 4194304 := by omega
      clear HSz
      go_wp2_with fail
      refine wp_region_noPanic ?_
      refine wp_region_held_drew (S := fun W' => W'.cell? ⟨b, off + k * 3, none⟩ = some (.int .i64 r) ∧ W'.cell? ⟨b, off + k * 3 + 1, none⟩ = some (.slice ah nh ch) ∧ W'.cell? ⟨b, off + k * 3 + 2, none⟩ = some (.slice aq nq cq)) (by kernel_rfl) (⟨c0, c1, c2⟩) (fun hH => ?_)
      have kV : Below wr.heap.size wr wr.drew := (Below.refl _ _).drew
      generalize wr.drew = V at *
      refine hTake (i := 0) (v := ?_) rfl (by kernel_rfl) (by kernel_rfl) (by kernel_rfl) (by rfl) ?_ hH ?_
      rotate_left
      · intro W hW; (try dsimp only at hW); go_simp <;> with_reducible rfl
      simp only [Act.put, List.setIfInBounds_toArray, List.set_cons_zero, List.set_cons_succ]
      refine hTake (i := 1) (v := ?_) rfl (by kernel_rfl) (by kernel_rfl) (by kernel_rfl) (by rfl) ?_ hH ?_
      rotate_left
      · intro W hW; (try dsimp only at hW); go_simp <;> with_reducible rfl
      simp only [Act.put, List.setIfInBounds_toArray, List.set_cons_zero, List.set_cons_succ]
      refine hTake (i := 2) (v := ?_) rfl (by kernel_rfl) (by kernel_rfl) (by kernel_rfl) (by rfl) ?_ hH ?_
      rotate_left
      · intro W hW; (try dsimp only at hW); go_simp <;> with_reducible rfl
      simp only [Act.put, List.setIfInBounds_toArray, List.set_cons_zero, List.set_cons_succ]
      refine hTake (i := 3) (v := ?_) rfl (by kernel_rfl) (by kernel_rfl) (by kernel_rfl) (by rfl) ?_ hH ?_
      rotate_left
      · intro W hW; (try dsimp only at hW); go_simp <;> with_reducible rfl
      simp only [Act.put, List.setIfInBounds_toArray, List.set_cons_zero, List.set_cons_succ]
      refine hTake (i := 4) (v := ?_) rfl (by kernel_rfl) (by kernel_rfl) (by kernel_rfl) (by rfl) ?_ hH ?_
      rotate_left
      · intro W hW; (try dsimp only at hW); go_simp <;> with_reducible rfl
      simp only [Act.put, List.setIfInBounds_toArray, List.set_cons_zero, List.set_cons_succ]
      refine hTake (i := 5) (v := ?_) rfl (by kernel_rfl) (by kernel_rfl) (by kernel_rfl) (by rfl) ?_ hH ?_
      rotate_left
      · intro W hW; (try dsimp only at hW); go_simp <;> with_reducible rfl
      simp only [Act.put, List.setIfInBounds_toArray, List.set_cons_zero, List.set_cons_succ]
      refine hTake (i := 7) (v := ?_) rfl (by kernel_rfl) (by kernel_rfl) (by kernel_rfl) (by rfl) ?_ hH ?_
      rotate_left
      · intro W hW; (try dsimp only at hW); go_simp <;> with_reducible rfl
      simp only [Act.put, List.setIfInBounds_toArray, List.set_cons_zero, List.set_cons_succ]
      refine hTake (i := 8) (v := ?_) rfl (by kernel_rfl) (by kernel_rfl) (by kernel_rfl) (by rfl) ?_ hH ?_
      rotate_left
      · intro W hW; (try dsimp only at hW); go_simp <;> with_reducible rfl
      simp only [Act.put, List.setIfInBounds_toArray, List.set_cons_zero, List.set_cons_succ]
      refine hTake (i := 9) (v := ?_) rfl (by kernel_rfl) (by kernel_rfl) (by kernel_rfl) (by rfl) ?_ hH ?_
      rotate_left
      · intro W hW; (try dsimp only at hW); go_simp <;> with_reducible rfl
      simp only [Act.put, List.setIfInBounds_toArray, List.set_cons_zero, List.set_cons_succ]
      refine hTake (i := 10) (v := ?_) rfl (by kernel_rfl) (by kernel_rfl) (by kernel_rfl) (by rfl) ?_ hH ?_
      rotate_left
      · intro W hW; (try dsimp only at hW); go_simp <;> with_reducible rfl
      simp only [Act.put, List.setIfInBounds_toArray, List.set_cons_zero, List.set_cons_succ]
      refine hTake (i := 11) (v := ?_) rfl (by kernel_rfl) (by kernel_rfl) (by kernel_rfl) (by rfl) ?_ hH ?_
      rotate_left
      · intro W hW; (try dsimp only at hW); go_simp <;> with_reducible rfl
      simp only [Act.put, List.setIfInBounds_toArray, List.set_cons_zero, List.set_cons_succ]
      refine hTake (i := 14) (v := ?_) rfl (by kernel_rfl) (by kernel_rfl) (by kernel_rfl) (by rfl) ?_ hH ?_
      rotate_left
      · intro W hW; (try dsimp only at hW); go_simp <;> with_reducible rfl
      simp only [Act.put, List.setIfInBounds_toArray, List.set_cons_zero, List.set_cons_succ]
      refine hTake (i := 15) (v := ?_) rfl (by kernel_rfl) (by kernel_rfl) (by kernel_rfl) (by rfl) ?_ hH ?_
      rotate_left
      · intro W hW; (try dsimp only at hW); go_simp <;> with_reducible rfl
      simp only [Act.put, List.setIfInBounds_toArray, List.set_cons_zero, List.set_cons_succ]
      refine hTake (i := 16) (v := ?_) rfl (by kernel_rfl) (by kernel_rfl) (by kernel_rfl) (by rfl) ?_ hH ?_
      rotate_left
      · intro W hW; (try dsimp only at hW); go_simp <;> with_reducible rfl
      simp only [Act.put, List.setIfInBounds_toArray, List.set_cons_zero, List.set_cons_succ]
      refine hTake (i := 17) (v := ?_) rfl (by kernel_rfl) (by kernel_rfl) (by kernel_rfl) (by rfl) ?_ hH ?_
      rotate_left
      · intro W hW; (try dsimp only at hW); go_simp <;> with_reducible rfl
      simp only [Act.put, List.setIfInBounds_toArray, List.set_cons_zero, List.set_cons_succ]
      refine hTake (i := 18) (v := ?_) rfl (by kernel_rfl) (by kernel_rfl) (by kernel_rfl) (by rfl) ?_ hH ?_
      rotate_left
      · intro W hW; (try dsimp only at hW); go_simp <;> with_reducible rfl
      simp only [Act.put, List.setIfInBounds_toArray, List.set_cons_zero, List.set_cons_succ]
      refine wpAnyH_ready (rs := [6, 13]) (by kernel_rfl) (by simp) ?_
      refine AllReadyH.cons rfl (fun K hK => ?_) (AllReadyH.cons rfl (fun K hK => ?_) AllReadyH.nil)
      focus
        go_simp
        obtain ⟨oE6, kE6, lE6⟩ := alloc_empty V 110 2
        refine hK.out _ _ ⟨keep_cell kE6 hH.1, keep_cell kE6 hH.2.1, keep_cell kE6 hH.2.2⟩ (fun hH => ?_)
        clear hK K
        have kW1 := kV.trans (kE6.mono kV.size)
        have oE6 := owns_base (base' := wr.heap.size) oE6 kV.size
        generalize V.heap.size = e6 at *
        generalize V.alloc (.cells #[] 110) = W1 at *
        refine wpAnyH_ready (rs := [12, 13]) (by kernel_rfl) (by simp) ?_
        refine AllReadyH.cons rfl (fun K hK => ?_) (AllReadyH.cons rfl (fun K hK => ?_) AllReadyH.nil)
        focus
          refine step_appX Try.underlying72 Try.underlying72 gi0 gz0 gz1 gz2 rfl (by omega) (by omega) (.tmp 18) (.tmp 23) rfl rfl wr.heap.size (.slice (some ⟨e6, 0, none⟩) 0 0) 0 [] ah nh ch (hcells lhs) rfl rfl oE6 (h3.below kW1) (hcells_one' _) (by omega) kW1.size ?_
          intro a5 c5 w5 own5 gr5 at5
          simp only [Nat.zero_add, List.nil_append] at own5 at5 ⊢
          have k5 : Below wr.heap.size wr w5 := kW1.grown gr5 kW1.size (fun g hg => (owns_lt oE6 g hg).1)
          have hb6 : (Value.slice (some ⟨e6, 0, none⟩) 0 0).ownBlock ≠ some b := fun e => by have := (owns_lt oE6 _ e).1; omega
          refine hK.out _ _ ⟨grown_cell gr5 hH.1 hb6, grown_cell gr5 hH.2.1 hb6, grown_cell gr5 hH.2.2 hb6⟩ (fun hH => ?_)
          clear hK K
          simp only [Act.put, List.setIfInBounds_toArray, List.set_cons_zero, List.set_cons_succ]
          refine wpAnyH_ready (rs := [13]) (by kernel_rfl) (by simp) ?_
          refine AllReadyH.cons rfl (fun K hK => ?_) AllReadyH.nil
          go_simp
          obtain ⟨oE13, kE13, lE13⟩ := alloc_empty w5 110 2
          refine hK.out _ _ ⟨keep_cell kE13 hH.1, keep_cell kE13 hH.2.1, keep_cell kE13 hH.2.2⟩ (fun hH => ?_)
          clear hK K
          have o1 := owns_below own5 kE13
          have kW := k5.trans (kE13.mono k5.size)
          have hne : ∀ g, (Value.slice a5 nh c5).ownBlock = some g → (Value.slice (some ⟨w5.heap.size, 0, none⟩) 0 0).ownBlock ≠ some g := fun g h1 h2 => by
            have := (owns_lt own5 g h1).2
            simp [Value.ownBlock] at h2; omega
          have hlt1 : ∀ g, (Value.slice a5 nh c5).ownBlock = some g → g < (w5.alloc (.cells #[] 110)).heap.size := fun g h1 => (owns_lt o1 g h1).2
          have oE := owns_base (base' := wr.heap.size) oE13 k5.size
          clear own5 gr5 at5 oE13 kE13 lE13 oE6 kE6
          generalize w5.alloc (.cells #[] 110) = W at *
          generalize w5.heap.size = E at *
          have hbE : (Value.slice (some ⟨E, 0, none⟩) 0 0).ownBlock ≠ some b := fun e => by have := (owns_lt oE _ e).1; omega
          refine wpAnyH_ready (rs := [19]) (by kernel_rfl) (by simp) ?_
          refine AllReadyH.cons rfl (fun K hK => ?_) AllReadyH.nil
          refine step_appX Try.underlying72 Try.underlying72 gi0 gz0 gz1 gz2 rfl (by omega) (by omega) (.tmp 25) (.tmp 30) rfl rfl wr.heap.size (.slice (some ⟨E, 0, none⟩) 0 0) 0 [] aq nq cq (hcells lqs) rfl rfl oE (h4.below kW) (hcells_one' _) (by omega) kW.size ?_
          intro a7 c7 w7 own7 gr7 at7
          simp only [Nat.zero_add, List.nil_append] at own7 at7 ⊢
          have k7 : Below wr.heap.size wr w7 := kW.grown gr7 kW.size (fun g hg => (owns_lt oE g hg).1)
          have o1 := owns_grown o1 gr7 (fun g hg e => hne g hg e)
          have hxy : ∀ g, (Value.slice a5 nh c5).ownBlock = some g → (Value.slice a7 nq c7).ownBlock ≠ some g := fun g h1 h2 => by
            rcases at7 g h2 with h | h
            · exact hne g h1 h
            · have := hlt1 g h1; omega
          refine hK.out _ _ ⟨grown_cell gr7 hH.1 hbE, grown_cell gr7 hH.2.1 hbE, grown_cell gr7 hH.2.2 hbE⟩ (fun hH => ?_)
          clear hK K gr7 at7 oE hne kW hlt1
          simp only [Act.put, List.setIfInBounds_toArray, List.set_cons_zero, List.set_cons_succ]
          refine hTake (i := 20) (v := ?_) rfl (by kernel_rfl) (by kernel_rfl) (by kernel_rfl) (by rfl) ?_ hH ?_
          rotate_left
          · intro W hW; (try dsimp only at hW); go_simp <;> with_reducible rfl
          simp only [Act.put, List.setIfInBounds_toArray, List.set_cons_zero, List.set_cons_succ]
          have kN : Below w7.heap.size w7 (w7.alloc (.cells #[.int .i64 r, .slice a5 nh c5, .slice a7 nq c7] 83)) := (Below.refl _ _).alloc (Nat.le_refl _) _
          refine wpAnyH_ready (rs := [21]) (by kernel_rfl) (by simp) ?_
          refine AllReadyH.cons rfl (fun K hK => ?_) AllReadyH.nil
          go_simp
          refine hK.out _ _ ⟨keep_cell kN hH.1, keep_cell kN hH.2.1, keep_cell kN hH.2.2⟩ (fun hH => ?_)
          clear hK K
          have bX5 := k7.trans (kN.mono k7.size)
          have ownP := own.below bX5
          have o1 := owns_below o1 kN
          have o2 := owns_below own7 kN
          have hb5 : w.heap.size ≤ (w7.alloc (.cells #[.int .i64 r, .slice a5 nh c5, .slice a7 nq c7] 83)).heap.size := Nat.le_trans hB.size bX5.size
          have hrb : (Value.slice a' k c').ownBlock ≠ some b := fun e => by have := (owns_lt own.row _ e).1; omega
          refine wpAnyH_ready (rs := [22]) (by kernel_rfl) (by simp) ?_
          refine AllReadyH.cons rfl (fun K hK => ?_) AllReadyH.nil
          refine step_appX Try.underlying24 Try.underlying24 hi0 hz0 hz1 hz2 rfl (by omega) (by omega) (.tmp 12) (.tmp 33) rfl rfl w.heap.size (.slice a' k c') k (lcells (ls.take k) vs) _ 1 1 [.int .i64 r, .slice a5 nh c5, .slice a7 nq c7] rfl rfl ownP.row (new_lock w7 r a5 nh c5 a7 nq c7 _) (lock_one' r a5 nh c5 a7 nq c7) hsum hb5 ?_
          intro a6 c6 w6 own6 gr6 at6
          refine hK.out _ _ ⟨grown_cell gr6 hH.1 hrb, grown_cell gr6 hH.2.1 hrb, grown_cell gr6 hH.2.2 hrb⟩ (fun hH => ?_)
          clear hK K
          simp only [Act.put, List.setIfInBounds_toArray, List.set_cons_zero, List.set_cons_succ]
          refine hTake (i := 23) (v := ?_) rfl (by kernel_rfl) (by kernel_rfl) (by kernel_rfl) (by rfl) ?_ hH ?_
          rotate_left
          · intro W hW; (try dsimp only at hW); go_simp <;> with_reducible rfl
          simp only [Act.put, List.setIfInBounds_toArray, List.set_cons_zero, List.set_cons_succ]
          refine wpAnyH_done (by kernel_rfl) ?_ _
          refine NoPanic.normal ?_
          go_wp2
          go_roundw
          case rel =>
            have hso : ∃ o, a6 = some ⟨o, 0, none⟩ := by
              rcases own6.2 with ⟨hv, h0⟩ | ⟨g, cp, cur, hv, _⟩
              · omega
              · simp only [Value.slice.injEq, true_and] at hv
                exact ⟨g, hv.1⟩
            have hap := apart_snoc (x := .slice a5 nh c5) (y := .slice a7 nq c7) (H := wr.heap.size) own.apart (fun g hg => (owns_lt own.row g hg).2) (fun i q hq g hg => (own.bd hq hg).2) hxy (fun g hg => (owns_lt o1 g hg).1) (fun g hg => (owns_lt o2 g hg).1)
            refine ⟨k + 1, a6, c6, by omega, by go_num, rfl, hso, ⟨vs ++ [(.slice a5 nh c5, .slice a7 nq c7)], ?_⟩, ?_⟩
            · rw [HT.out]
              exact ownP.snoc (l := ⟨r, lhs, lqs⟩) own6 gr6 at6 (by simp only; rw [← hH4.out]; exact owns_base o1 hB.size) (by simp only; rw [← hQ4.out]; exact owns_base o2 hB.size) hap
            · have b5 := hB.trans (bX5.mono hB.size)
              exact b5.grown gr6 b5.size (fun g hg => (owns_lt ownP.row g hg).1)
          case measure => simp [intOf]; omega
        rotate_left
        focus
          go_simp
          obtain ⟨oE13, kE13, lE13⟩ := alloc_empty W1 110 2
          refine hK.out _ _ ⟨keep_cell kE13 hH.1, keep_cell kE13 hH.2.1, keep_cell kE13 hH.2.2⟩ (fun hH => ?_)
          clear hK K
          have oE6 := owns_below oE6 kE13
          have kW2 := kW1.trans (kE13.mono kW1.size)
          have hee : e6 ≠ W1.heap.size := by omega
          have oE13 := owns_base (base' := wr.heap.size) oE13 kW1.size
          generalize hW1 : W1.heap.size = e13 at *
          generalize W1.alloc (.cells #[] 110) = W2 at *
          refine wpAnyH_ready (rs := [12]) (by kernel_rfl) (by simp) ?_
          refine AllReadyH.cons rfl (fun K hK => ?_) AllReadyH.nil
          refine step_appX Try.underlying72 Try.underlying72 gi0 gz0 gz1 gz2 rfl (by omega) (by omega) (.tmp 18) (.tmp 23) rfl rfl wr.heap.size (.slice (some ⟨e6, 0, none⟩) 0 0) 0 [] ah nh ch (hcells lhs) rfl rfl oE6 (h3.below kW2) (hcells_one' _) (by omega) kW2.size ?_
          intro a5 c5 w5 own5 gr5 at5
          simp only [Nat.zero_add, List.nil_append] at own5 at5 ⊢
          have k5 : Below wr.heap.size wr w5 := kW2.grown gr5 kW2.size (fun g hg => (owns_lt oE6 g hg).1)
          have hb6 : (Value.slice (some ⟨e6, 0, none⟩) 0 0).ownBlock ≠ some b := fun e => by have := (owns_lt oE6 _ e).1; omega
          refine hK.out _ _ ⟨grown_cell gr5 hH.1 hb6, grown_cell gr5 hH.2.1 hb6, grown_cell gr5 hH.2.2 hb6⟩ (fun hH => ?_)
          clear hK K
          simp only [Act.put, List.setIfInBounds_toArray, List.set_cons_zero, List.set_cons_succ]
          have hne0 : ∀ g, (Value.slice (some ⟨e13, 0, none⟩) 0 0).ownBlock = some g → (Value.slice (some ⟨e6, 0, none⟩) 0 0).ownBlock ≠ some g := fun g h1 h2 => by simp [Value.ownBlock] at h1 h2; omega
          have oE := owns_grown oE13 gr5 hne0
          have o1 := own5
          have kW := k5
          have hlt1 : ∀ g, (Value.slice a5 nh c5).ownBlock = some g → g < w5.heap.size := fun g h1 => (owns_lt o1 g h1).2
          have hne : ∀ g, (Value.slice a5 nh c5).ownBlock = some g → (Value.slice (some ⟨e13, 0, none⟩) 0 0).ownBlock ≠ some g := fun g h1 h2 => by
            rcases at5 g h1 with h | h
            · exact hne0 g h2 h
            · have := (owns_lt oE13 g h2).2; omega
          clear own5 gr5 at5 oE13 oE6 hne0
          generalize w5 = W at *
          generalize e13 = E at *
          have hbE : (Value.slice (some ⟨E, 0, none⟩) 0 0).ownBlock ≠ some b := fun e => by have := (owns_lt oE _ e).1; omega
          refine wpAnyH_ready (rs := [19]) (by kernel_rfl) (by simp) ?_
          refine AllReadyH.cons rfl (fun K hK => ?_) AllReadyH.nil
          refine step_appX Try.underlying72 Try.underlying72 gi0 gz0 gz1 gz2 rfl (by omega) (by omega) (.tmp 25) (.tmp 30) rfl rfl wr.heap.size (.slice (some ⟨E, 0, none⟩) 0 0) 0 [] aq nq cq (hcells lqs) rfl rfl oE (h4.below kW) (hcells_one' _) (by omega) kW.size ?_
          intro a7 c7 w7 own7 gr7 at7
          simp only [Nat.zero_add, List.nil_append] at own7 at7 ⊢
          have k7 : Below wr.heap.size wr w7 := kW.grown gr7 kW.size (fun g hg => (owns_lt oE g hg).1)
          have o1 := owns_grown o1 gr7 (fun g hg e => hne g hg e)
          have hxy : ∀ g, (Value.slice a5 nh c5).ownBlock = some g → (Value.slice a7 nq c7).ownBlock ≠ some g := fun g h1 h2 => by
            rcases at7 g h2 with h | h
            · exact hne g h1 h
            · have := hlt1 g h1; omega
          refine hK.out _ _ ⟨grown_cell gr7 hH.1 hbE, grown_cell gr7 hH.2.1 hbE, grown_cell gr7 hH.2.2 hbE⟩ (fun hH => ?_)
          clear hK K gr7 at7 oE hne kW hlt1
          simp only [Act.put, List.setIfInBounds_toArray, List.set_cons_zero, List.set_cons_succ]
          refine hTake (i := 20) (v := ?_) rfl (by kernel_rfl) (by kernel_rfl) (by kernel_rfl) (by rfl) ?_ hH ?_
          rotate_left
          · intro W hW; (try dsimp only at hW); go_simp <;> with_reducible rfl
          simp only [Act.put, List.setIfInBounds_toArray, List.set_cons_zero, List.set_cons_succ]
          have kN : Below w7.heap.size w7 (w7.alloc (.cells #[.int .i64 r, .slice a5 nh c5, .slice a7 nq c7] 83)) := (Below.refl _ _).alloc (Nat.le_refl _) _
          refine wpAnyH_ready (rs := [21]) (by kernel_rfl) (by simp) ?_
          refine AllReadyH.cons rfl (fun K hK => ?_) AllReadyH.nil
          go_simp
          refine hK.out _ _ ⟨keep_cell kN hH.1, keep_cell kN hH.2.1, keep_cell kN hH.2.2⟩ (fun hH => ?_)
          clear hK K
          have bX5 := k7.trans (kN.mono k7.size)
          have ownP := own.below bX5
          have o1 := owns_below o1 kN
          have o2 := owns_below own7 kN
          have hb5 : w.heap.size ≤ (w7.alloc (.cells #[.int .i64 r, .slice a5 nh c5, .slice a7 nq c7] 83)).heap.size := Nat.le_trans hB.size bX5.size
          have hrb : (Value.slice a' k c').ownBlock ≠ some b := fun e => by have := (owns_lt own.row _ e).1; omega
          refine wpAnyH_ready (rs := [22]) (by kernel_rfl) (by simp) ?_
          refine AllReadyH.cons rfl (fun K hK => ?_) AllReadyH.nil
          refine step_appX Try.underlying24 Try.underlying24 hi0 hz0 hz1 hz2 rfl (by omega) (by omega) (.tmp 12) (.tmp 33) rfl rfl w.heap.size (.slice a' k c') k (lcells (ls.take k) vs) _ 1 1 [.int .i64 r, .slice a5 nh c5, .slice a7 nq c7] rfl rfl ownP.row (new_lock w7 r a5 nh c5 a7 nq c7 _) (lock_one' r a5 nh c5 a7 nq c7) hsum hb5 ?_
          intro a6 c6 w6 own6 gr6 at6
          refine hK.out _ _ ⟨grown_cell gr6 hH.1 hrb, grown_cell gr6 hH.2.1 hrb, grown_cell gr6 hH.2.2 hrb⟩ (fun hH => ?_)
          clear hK K
          simp only [Act.put, List.setIfInBounds_toArray, List.set_cons_zero, List.set_cons_succ]
          refine hTake (i := 23) (v := ?_) rfl (by kernel_rfl) (by kernel_rfl) (by kernel_rfl) (by rfl) ?_ hH ?_
          rotate_left
          · intro W hW; (try dsimp only at hW); go_simp <;> with_reducible rfl
          simp only [Act.put, List.setIfInBounds_toArray, List.set_cons_zero, List.set_cons_succ]
          refine wpAnyH_done (by kernel_rfl) ?_ _
          refine NoPanic.normal ?_
          go_wp2
          go_roundw
          case rel =>
            have hso : ∃ o, a6 = some ⟨o, 0, none⟩ := by
              rcases own6.2 with ⟨hv, h0⟩ | ⟨g, cp, cur, hv, _⟩
              · omega
              · simp only [Value.slice.injEq, true_and] at hv
                exact ⟨g, hv.1⟩
            have hap := apart_snoc (x := .slice a5 nh c5) (y := .slice a7 nq c7) (H := wr.heap.size) own.apart (fun g hg => (owns_lt own.row g hg).2) (fun i q hq g hg => (own.bd hq hg).2) hxy (fun g hg => (owns_lt o1 g hg).1) (fun g hg => (owns_lt o2 g hg).1)
            refine ⟨k + 1, a6, c6, by omega, by go_num, rfl, hso, ⟨vs ++ [(.slice a5 nh c5, .slice a7 nq c7)], ?_⟩, ?_⟩
            · rw [HT.out]
              exact ownP.snoc (l := ⟨r, lhs, lqs⟩) own6 gr6 at6 (by simp only; rw [← hH4.out]; exact owns_base o1 hB.size) (by simp only; rw [← hQ4.out]; exact owns_base o2 hB.size) hap
            · have b5 := hB.trans (bX5.mono hB.size)
              exact b5.grown gr6 b5.size (fun g hg => (owns_lt ownP.row g hg).1)
          case measure => simp [intOf]; omega
        rotate_left
      rotate_left
      focus
        go_simp
        obtain ⟨oE13, kE13, lE13⟩ := alloc_empty V 110 2
        refine hK.out _ _ ⟨keep_cell kE13 hH.1, keep_cell kE13 hH.2.1, keep_cell kE13 hH.2.2⟩ (fun hH => ?_)
        clear hK K
        have kW1 := kV.trans (kE13.mono kV.size)
        have oE13 := owns_base (base' := wr.heap.size) oE13 kV.size
        generalize V.heap.size = e13 at *
        generalize V.alloc (.cells #[] 110) = W1 at *
        refine wpAnyH_ready (rs := [6]) (by kernel_rfl) (by simp) ?_
        refine AllReadyH.cons rfl (fun K hK => ?_) AllReadyH.nil
        go_simp
        obtain ⟨oE6, kE6, lE6⟩ := alloc_empty W1 110 2
        refine hK.out _ _ ⟨keep_cell kE6 hH.1, keep_cell kE6 hH.2.1, keep_cell kE6 hH.2.2⟩ (fun hH => ?_)
        clear hK K
        have oE13 := owns_below oE13 kE6
        have kW2 := kW1.trans (kE6.mono kW1.size)
        have hee : e13 ≠ W1.heap.size := by omega
        have oE6 := owns_base (base' := wr.heap.size) oE6 kW1.size
        generalize hW1 : W1.heap.size = e6 at *
        generalize W1.alloc (.cells #[] 110) = W2 at *
        refine wpAnyH_ready (rs := [12]) (by kernel_rfl) (by simp) ?_
        refine AllReadyH.cons rfl (fun K hK => ?_) AllReadyH.nil
        refine step_appX Try.underlying72 Try.underlying72 gi0 gz0 gz1 gz2 rfl (by omega) (by omega) (.tmp 18) (.tmp 23) rfl rfl wr.heap.size (.slice (some ⟨e6, 0, none⟩) 0 0) 0 [] ah nh ch (hcells lhs) rfl rfl oE6 (h3.below kW2) (hcells_one' _) (by omega) kW2.size ?_
        intro a5 c5 w5 own5 gr5 at5
        simp only [Nat.zero_add, List.nil_append] at own5 at5 ⊢
        have k5 : Below wr.heap.size wr w5 := kW2.grown gr5 kW2.size (fun g hg => (owns_lt oE6 g hg).1)
        have hb6 : (Value.slice (some ⟨e6, 0, none⟩) 0 0).ownBlock ≠ some b := fun e => by have := (owns_lt oE6 _ e).1; omega
        refine hK.out _ _ ⟨grown_cell gr5 hH.1 hb6, grown_cell gr5 hH.2.1 hb6, grown_cell gr5 hH.2.2 hb6⟩ (fun hH => ?_)
        clear hK K
        simp only [Act.put, List.setIfInBounds_toArray, List.set_cons_zero, List.set_cons_succ]
        have hne0 : ∀ g, (Value.slice (some ⟨e13, 0, none⟩) 0 0).ownBlock = some g → (Value.slice (some ⟨e6, 0, none⟩) 0 0).ownBlock ≠ some g := fun g h1 h2 => by simp [Value.ownBlock] at h1 h2; omega
        have oE := owns_grown oE13 gr5 hne0
        have o1 := own5
        have kW := k5
        have hlt1 : ∀ g, (Value.slice a5 nh c5).ownBlock = some g → g < w5.heap.size := fun g h1 => (owns_lt o1 g h1).2
        have hne : ∀ g, (Value.slice a5 nh c5).ownBlock = some g → (Value.slice (some ⟨e13, 0, none⟩) 0 0).ownBlock ≠ some g := fun g h1 h2 => by
          rcases at5 g h1 with h | h
          · exact hne0 g h2 h
          · have := (owns_lt oE13 g h2).2; omega
        clear own5 gr5 at5 oE13 oE6 hne0
        generalize w5 = W at *
        generalize e13 = E at *
        have hbE : (Value.slice (some ⟨E, 0, none⟩) 0 0).ownBlock ≠ some b := fun e => by have := (owns_lt oE _ e).1; omega
        refine wpAnyH_ready (rs := [19]) (by kernel_rfl) (by simp) ?_
        refine AllReadyH.cons rfl (fun K hK => ?_) AllReadyH.nil
        refine step_appX Try.underlying72 Try.underlying72 gi0 gz0 gz1 gz2 rfl (by omega) (by omega) (.tmp 25) (.tmp 30) rfl rfl wr.heap.size (.slice (some ⟨E, 0, none⟩) 0 0) 0 [] aq nq cq (hcells lqs) rfl rfl oE (h4.below kW) (hcells_one' _) (by omega) kW.size ?_
        intro a7 c7 w7 own7 gr7 at7
        simp only [Nat.zero_add, List.nil_append] at own7 at7 ⊢
        have k7 : Below wr.heap.size wr w7 := kW.grown gr7 kW.size (fun g hg => (owns_lt oE g hg).1)
        have o1 := owns_grown o1 gr7 (fun g hg e => hne g hg e)
        have hxy : ∀ g, (Value.slice a5 nh c5).ownBlock = some g → (Value.slice a7 nq c7).ownBlock ≠ some g := fun g h1 h2 => by
          rcases at7 g h2 with h | h
          · exact hne g h1 h
          · have := hlt1 g h1; omega
        refine hK.out _ _ ⟨grown_cell gr7 hH.1 hbE, grown_cell gr7 hH.2.1 hbE, grown_cell gr7 hH.2.2 hbE⟩ (fun hH => ?_)
        clear hK K gr7 at7 oE hne kW hlt1
        simp only [Act.put, List.setIfInBounds_toArray, List.set_cons_zero, List.set_cons_succ]
        refine hTake (i := 20) (v := ?_) rfl (by kernel_rfl) (by kernel_rfl) (by kernel_rfl) (by rfl) ?_ hH ?_
        rotate_left
        · intro W hW; (try dsimp only at hW); go_simp <;> with_reducible rfl
        simp only [Act.put, List.setIfInBounds_toArray, List.set_cons_zero, List.set_cons_succ]
        have kN : Below w7.heap.size w7 (w7.alloc (.cells #[.int .i64 r, .slice a5 nh c5, .slice a7 nq c7] 83)) := (Below.refl _ _).alloc (Nat.le_refl _) _
        refine wpAnyH_ready (rs := [21]) (by kernel_rfl) (by simp) ?_
        refine AllReadyH.cons rfl (fun K hK => ?_) AllReadyH.nil
        go_simp
        refine hK.out _ _ ⟨keep_cell kN hH.1, keep_cell kN hH.2.1, keep_cell kN hH.2.2⟩ (fun hH => ?_)
        clear hK K
        have bX5 := k7.trans (kN.mono k7.size)
        have ownP := own.below bX5
        have o1 := owns_below o1 kN
        have o2 := owns_below own7 kN
        have hb5 : w.heap.size ≤ (w7.alloc (.cells #[.int .i64 r, .slice a5 nh c5, .slice a7 nq c7] 83)).heap.size := Nat.le_trans hB.size bX5.size
        have hrb : (Value.slice a' k c').ownBlock ≠ some b := fun e => by have := (owns_lt own.row _ e).1; omega
        refine wpAnyH_ready (rs := [22]) (by kernel_rfl) (by simp) ?_
        refine AllReadyH.cons rfl (fun K hK => ?_) AllReadyH.nil
        refine step_appX Try.underlying24 Try.underlying24 hi0 hz0 hz1 hz2 rfl (by omega) (by omega) (.tmp 12) (.tmp 33) rfl rfl w.heap.size (.slice a' k c') k (lcells (ls.take k) vs) _ 1 1 [.int .i64 r, .slice a5 nh c5, .slice a7 nq c7] rfl rfl ownP.row (new_lock w7 r a5 nh c5 a7 nq c7 _) (lock_one' r a5 nh c5 a7 nq c7) hsum hb5 ?_
        intro a6 c6 w6 own6 gr6 at6
        refine hK.out _ _ ⟨grown_cell gr6 hH.1 hrb, grown_cell gr6 hH.2.1 hrb, grown_cell gr6 hH.2.2 hrb⟩ (fun hH => ?_)
        clear hK K
        simp only [Act.put, List.setIfInBounds_toArray, List.set_cons_zero, List.set_cons_succ]
        refine hTake (i := 23) (v := ?_) rfl (by kernel_rfl) (by kernel_rfl) (by kernel_rfl) (by rfl) ?_ hH ?_
        rotate_left
        · intro W hW; (try dsimp only at hW); go_simp <;> with_reducible rfl
        simp only [Act.put, List.setIfInBounds_toArray, List.set_cons_zero, List.set_cons_succ]
        refine wpAnyH_done (by kernel_rfl) ?_ _
        refine NoPanic.normal ?_
        go_wp2
        go_roundw
        case rel =>
          have hso : ∃ o, a6 = some ⟨o, 0, none⟩ := by
            rcases own6.2 with ⟨hv, h0⟩ | ⟨g, cp, cur, hv, _⟩
            · omega
            · simp only [Value.slice.injEq, true_and] at hv
              exact ⟨g, hv.1⟩
          have hap := apart_snoc (x := .slice a5 nh c5) (y := .slice a7 nq c7) (H := wr.heap.size) own.apart (fun g hg => (owns_lt own.row g hg).2) (fun i q hq g hg => (own.bd hq hg).2) hxy (fun g hg => (owns_lt o1 g hg).1) (fun g hg => (owns_lt o2 g hg).1)
          refine ⟨k + 1, a6, c6, by omega, by go_num, rfl, hso, ⟨vs ++ [(.slice a5 nh c5, .slice a7 nq c7)], ?_⟩, ?_⟩
          · rw [HT.out]
            exact ownP.snoc (l := ⟨r, lhs, lqs⟩) own6 gr6 at6 (by simp only; rw [← hH4.out]; exact owns_base o1 hB.size) (by simp only; rw [← hQ4.out]; exact owns_base o2 hB.size) hap
          · have b5 := hB.trans (bX5.mono hB.size)
            exact b5.grown gr6 b5.size (fun g hg => (owns_lt ownP.row g hg).1)
        case measure => simp [intOf]; omega
      rotate_left
    · obtain rfl : k = n := by omega
      have HWF : Hid (ls.take k = ls) := by have := HL.out; show _ = _; rw [this]; exact List.take_length
      rw [HWF.out] at own
      go_wp2
      go_ret
      obtain ⟨o, rfl⟩ := HSO.out
      exact ⟨o, c', rfl, ⟨vs, own⟩, hB⟩

end Go.Proofs.Yteblnejpohjjmaa
