/- Several texts in one: AskE, AskF, AskG, JoiL, AskH. -/
import Derived.Test.YtjagobcogkdfhaaAskZ
import Derived.Test.YtjagobcogkdfhaaLkFr


/- l6Copy. -/
namespace Go.Proofs.Ytjagobcogkdfhaa
open Go.RowKit

theorem alloc_empty (V : World) (e : TypeId) (size : Nat) : (V.alloc (.cells #[] e)).ownsRow V.heap.size e size (.slice (some ⟨V.heap.size, 0, none⟩) 0 0) 0 [] ∧ Below V.heap.size V (V.alloc (.cells #[] e)) ∧ V.heap.size < (V.alloc (.cells #[] e)).heap.size :=
  ⟨empty_own V _ e size (Nat.le_refl _), (Below.refl _ _).alloc (Nat.le_refl _) _, by rw [World.size_alloc]; omega⟩

set_option linter.unusedSimpArgs false in
set_option maxRecDepth 20000 in
set_option maxHeartbeats 2000000 in
theorem l6Copy_any (a : Option Addr) (n cap : Nat) (ls : List Ch.Lock) (w : World) (h : LkAt w a n ls) (hs : Ch.lkSize ls ≤ 1048576) :
    Calls Try.prog 209 #[.slice a n cap] w fun e w' => ∃ o c', e = .returned (.slice (some ⟨o, 0, none⟩) n c') ∧ OwnLk 129 w' w.heap.size (.slice (some ⟨o, 0, none⟩) n c') n ls ∧ Below w.heap.size w w' := by
  have HL := h.len
  have hn : n ≤ 1048576 := by unfold Ch.lkSize at hs; have := HL.out; omega
  obtain ⟨i0, hi0, hz0, hz1, hz2⟩ := info_parts Try.info129
  obtain ⟨j0, gi0, gz0, gz1, gz2⟩ := info_parts Try.info131
  go_enter Try.func209, Try.ntmps209
  go_wp2
  go_loopw [3, 4] (fun q i wr => ∃ (k : Nat) (a' : Option Addr) (c' : Nat), k ≤ n ∧ i = .int .i64 k ∧ q = .slice a' k c' ∧ (∃ o, a' = some ⟨o, 0, none⟩) ∧ OwnLk 129 wr w.heap.size (.slice a' k c') k (ls.take k) ∧ Below w.heap.size w wr) (fun _ i _ => n - (intOf i).toNat)
  case atStart => exact ⟨0, _, 0, Nat.zero_le _, rfl, rfl, ⟨_, rfl⟩, ⟨[], ⟨rfl, rfl, empty_own w _ _ _ (Nat.le_refl _), fun i p hp => by simp at hp, fun i p hp => by simp at hp, by simp [Value.ownBlock]⟩⟩, (Below.refl _ _).alloc (Nat.le_refl _) _⟩
  case round =>
    obtain ⟨k, a', c', hk, rfl, rfl, HSO, ⟨vs, own⟩, hB⟩ := hrel
    have HSO := hid HSO
    by_cases hlt : k < n
    · have hkl : k < ls.length := by have := HL.out; omega
      have HSz := hid (Ch.lk_one hs k)
      have HT := hid (Ch.take_snoc ls Ch.Lock.zero k hkl)
      obtain ⟨b, off, ah, nh, ch, aq, nq, cq, rfl, c0, c1, c2, h3, h4, _, _, _, _⟩ := h.lock hlt
      have hbl := lt_of_cell c0
      have c0 := keep_cell hB c0
      have c1 := keep_cell hB c1
      have c2 := keep_cell hB c2
      have h3 := h3.below hB
      have h4 := h4.below hB
      have hH4 := h3.hlen
      have hQ4 := h4.hlen
      have hnh : nh ≤ 1048576 := by have := HSz.out; have := hH4.out; omega
      have hnq : nq ≤ 1048576 := by have := HSz.out; have := hQ4.out; omega
      have hbs : w.heap.size ≤ wr.heap.size := hB.size
      rw [show ls.getD k Ch.Lock.zero = Ch.lkAt ls k from rfl] at HT
      generalize Ch.lkAt ls k = l at *
      obtain ⟨r, lhs, lqs⟩ := l
      simp only at c0 h3 h4 hH4 hQ4
      have hsum : k + 1 ≤ 4194304 := by omega
      clear HSz
      go_wp2_with fail
      refine wp_region_noPanic ?_
      refine wp_region_held_drew (S := fun W' => W'.cell? ⟨b, off + k * 3, none⟩ = some (.int .i64 r) ∧ W'.cell? ⟨b, off + k * 3 + 1, none⟩ = some (.slice ah nh ch) ∧ W'.cell? ⟨b, off + k * 3 + 2, none⟩ = some (.slice aq nq cq)) (by kernel_rfl) (⟨c0, c1, c2⟩) (fun hH => ?_)
      have kV : Below wr.heap.size wr wr.drew := (Below.refl _ _).drew
      generalize wr.drew = V at *
      refine hTake (i := 0) (v := ?_) rfl (by kernel_rfl) (by kernel_rfl) (by kernel_rfl) (by rfl) ?_ hH ?_
      rotate_left
      · intro W hW; (try dsimp only at hW); go_simp <;> with_reducible rfl
      simp only [Act.put, List.setIfInBounds_toArray, List.set_cons_zero, List.set_cons_succ]
      refine hTake (i := 1) (v := ?_) rfl (by kernel_rfl) (by kernel_rfl) (by kernel_rfl) (by rfl) ?_ hH ?_
      rotate_left
      · intro W hW; (try dsimp only at hW); go_simp <;> with_reducible rfl
      simp only [Act.put, List.setIfInBounds_toArray, List.set_cons_zero, List.set_cons_succ]
      refine hTake (i := 2) (v := ?_) rfl (by kernel_rfl) (by kernel_rfl) (by kernel_rfl) (by rfl) ?_ hH ?_
      rotate_left
      · intro W hW; (try dsimp only at hW); go_simp <;> with_reducible rfl
      simp only [Act.put, List.setIfInBounds_toArray, List.set_cons_zero, List.set_cons_succ]
      refine hTake (i := 3) (v := ?_) rfl (by kernel_rfl) (by kernel_rfl) (by kernel_rfl) (by rfl) ?_ hH ?_
      rotate_left
      · intro W hW; (try dsimp only at hW); go_simp <;> with_reducible rfl
      simp only [Act.put, List.setIfInBounds_toArray, List.set_cons_zero, List.set_cons_succ]
      refine hTake (i := 4) (v := ?_) rfl (by kernel_rfl) (by kernel_rfl) (by kernel_rfl) (by rfl) ?_ hH ?_
      rotate_left
      · intro W hW; (try dsimp only at hW); go_simp <;> with_reducible rfl
      simp only [Act.put, List.setIfInBounds_toArray, List.set_cons_zero, List.set_cons_succ]
      refine hTake (i := 5) (v := ?_) rfl (by kernel_rfl) (by kernel_rfl) (by kernel_rfl) (by rfl) ?_ hH ?_
      rotate_left
      · intro W hW; (try dsimp only at hW); go_simp <;> with_reducible rfl
      simp only [Act.put, List.setIfInBounds_toArray, List.set_cons_zero, List.set_cons_succ]
      refine hTake (i := 7) (v := ?_) rfl (by kernel_rfl) (by kernel_rfl) (by kernel_rfl) (by rfl) ?_ hH ?_
      rotate_left
      · intro W hW; (try dsimp only at hW); go_simp <;> with_reducible rfl
      simp only [Act.put, List.setIfInBounds_toArray, List.set_cons_zero, List.set_cons_succ]
      refine hTake (i := 8) (v := ?_) rfl (by kernel_rfl) (by kernel_rfl) (by kernel_rfl) (by rfl) ?_ hH ?_
      rotate_left
      · intro W hW; (try dsimp only at hW); go_simp <;> with_reducible rfl
      simp only [Act.put, List.setIfInBounds_toArray, List.set_cons_zero, List.set_cons_succ]
      refine hTake (i := 9) (v := ?_) rfl (by kernel_rfl) (by kernel_rfl) (by kernel_rfl) (by rfl) ?_ hH ?_
      rotate_left
      · intro W hW; (try dsimp only at hW); go_simp <;> with_reducible rfl
      simp only [Act.put, List.setIfInBounds_toArray, List.set_cons_zero, List.set_cons_succ]
      refine hTake (i := 10) (v := ?_) rfl (by kernel_rfl) (by kernel_rfl) (by kernel_rfl) (by rfl) ?_ hH ?_
      rotate_left
      · intro W hW; (try dsimp only at hW); go_simp <;> with_reducible rfl
      simp only [Act.put, List.setIfInBounds_toArray, List.set_cons_zero, List.set_cons_succ]
      refine hTake (i := 11) (v := ?_) rfl (by kernel_rfl) (by kernel_rfl) (by kernel_rfl) (by rfl) ?_ hH ?_
      rotate_left
      · intro W hW; (try dsimp only at hW); go_simp <;> with_reducible rfl
      simp only [Act.put, List.setIfInBounds_toArray, List.set_cons_zero, List.set_cons_succ]
      refine hTake (i := 14) (v := ?_) rfl (by kernel_rfl) (by kernel_rfl) (by kernel_rfl) (by rfl) ?_ hH ?_
      rotate_left
      · intro W hW; (try dsimp only at hW); go_simp <;> with_reducible rfl
      simp only [Act.put, List.setIfInBounds_toArray, List.set_cons_zero, List.set_cons_succ]
      refine hTake (i := 15) (v := ?_) rfl (by kernel_rfl) (by kernel_rfl) (by kernel_rfl) (by rfl) ?_ hH ?_
      rotate_left
      · intro W hW; (try dsimp only at hW); go_simp <;> with_reducible rfl
      simp only [Act.put, List.setIfInBounds_toArray, List.set_cons_zero, List.set_cons_succ]
      refine hTake (i := 16) (v := ?_) rfl (by kernel_rfl) (by kernel_rfl) (by kernel_rfl) (by rfl) ?_ hH ?_
      rotate_left
      · intro W hW; (try dsimp only at hW); go_simp <;> with_reducible rfl
      simp only [Act.put, List.setIfInBounds_toArray, List.set_cons_zero, List.set_cons_succ]
      refine hTake (i := 17) (v := ?_) rfl (by kernel_rfl) (by kernel_rfl) (by kernel_rfl) (by rfl) ?_ hH ?_
      rotate_left
      · intro W hW; (try dsimp only at hW); go_simp <;> with_reducible rfl
      simp only [Act.put, List.setIfInBounds_toArray, List.set_cons_zero, List.set_cons_succ]
      refine hTake (i := 18) (v := ?_) rfl (by kernel_rfl) (by kernel_rfl) (by kernel_rfl) (by rfl) ?_ hH ?_
      rotate_left
      · intro W hW; (try dsimp only at hW); go_simp <;> with_reducible rfl
      simp only [Act.put, List.setIfInBounds_toArray, List.set_cons_zero, List.set_cons_succ]
      refine wpAnyH_ready (rs := [6, 13]) (by kernel_rfl) (by simp) ?_
      refine AllReadyH.cons rfl (fun K hK => ?_) (AllReadyH.cons rfl (fun K hK => ?_) AllReadyH.nil)
      focus
        go_simp
        obtain ⟨oE6, kE6, lE6⟩ := alloc_empty V 131 2
        refine hK.out _ _ ⟨keep_cell kE6 hH.1, keep_cell kE6 hH.2.1, keep_cell kE6 hH.2.2⟩ (fun hH => ?_)
        clear hK K
        have kW1 := kV.trans (kE6.mono kV.size)
        have oE6 := owns_base (base' := wr.heap.size) oE6 kV.size
        generalize V.heap.size = e6 at *
        generalize V.alloc (.cells #[] 131) = W1 at *
        refine wpAnyH_ready (rs := [12, 13]) (by kernel_rfl) (by simp) ?_
        refine AllReadyH.cons rfl (fun K hK => ?_) (AllReadyH.cons rfl (fun K hK => ?_) AllReadyH.nil)
        focus
          refine step_appX Try.underlying127 Try.underlying127 gi0 gz0 gz1 gz2 rfl (by omega) (by omega) (.tmp 18) (.tmp 23) rfl rfl wr.heap.size (.slice (some ⟨e6, 0, none⟩) 0 0) 0 [] ah nh ch (hcells lhs) rfl rfl oE6 (h3.below kW1) (hcells_one' _) (by omega) kW1.size ?_
          intro a5 c5 w5 own5 gr5 at5
          simp only [Nat.zero_add, List.nil_append] at own5 at5 ⊢
          have k5 : Below wr.heap.size wr w5 := kW1.grown gr5 kW1.size (fun g hg => (owns_lt oE6 g hg).1)
          have hb6 : (Value.slice (some ⟨e6, 0, none⟩) 0 0).ownBlock ≠ some b := fun e => by have := (owns_lt oE6 _ e).1; omega
          refine hK.out _ _ ⟨grown_cell gr5 hH.1 hb6, grown_cell gr5 hH.2.1 hb6, grown_cell gr5 hH.2.2 hb6⟩ (fun hH => ?_)
          clear hK K
          simp only [Act.put, List.setIfInBounds_toArray, List.set_cons_zero, List.set_cons_succ]
          refine wpAnyH_ready (rs := [13]) (by kernel_rfl) (by simp) ?_
          refine AllReadyH.cons rfl (fun K hK => ?_) AllReadyH.nil
          go_simp
          obtain ⟨oE13, kE13, lE13⟩ := alloc_empty w5 131 2
          refine hK.out _ _ ⟨keep_cell kE13 hH.1, keep_cell kE13 hH.2.1, keep_cell kE13 hH.2.2⟩ (fun hH => ?_)
          clear hK K
          have o1 := owns_below own5 kE13
          have kW := k5.trans (kE13.mono k5.size)
          have hne : ∀ g, (Value.slice a5 nh c5).ownBlock = some g → (Value.slice (some ⟨w5.heap.size, 0, none⟩) 0 0).ownBlock ≠ some g := fun g h1 h2 => by
            have := (owns_lt own5 g h1).2
            simp [Value.ownBlock] at h2; omega
          have hlt1 : ∀ g, (Value.slice a5 nh c5).ownBlock = some g → g < (w5.alloc (.cells #[] 131)).heap.size := fun g h1 => (owns_lt o1 g h1).2
          have oE := owns_base (base' := wr.heap.size) oE13 k5.size
          clear own5 gr5 at5 oE13 kE13 lE13 oE6 kE6
          generalize w5.alloc (.cells #[] 131) = W at *
          generalize w5.heap.size = E at *
          have hbE : (Value.slice (some ⟨E, 0, none⟩) 0 0).ownBlock ≠ some b := fun e => by have := (owns_lt oE _ e).1; omega
          refine wpAnyH_ready (rs := [19]) (by kernel_rfl) (by simp) ?_
          refine AllReadyH.cons rfl (fun K hK => ?_) AllReadyH.nil
          refine step_appX Try.underlying127 Try.underlying127 gi0 gz0 gz1 gz2 rfl (by omega) (by omega) (.tmp 25) (.tmp 30) rfl rfl wr.heap.size (.slice (some ⟨E, 0, none⟩) 0 0) 0 [] aq nq cq (hcells lqs) rfl rfl oE (h4.below kW) (hcells_one' _) (by omega) kW.size ?_
          intro a7 c7 w7 own7 gr7 at7
          simp only [Nat.zero_add, List.nil_append] at own7 at7 ⊢
          have k7 : Below wr.heap.size wr w7 := kW.grown gr7 kW.size (fun g hg => (owns_lt oE g hg).1)
          have o1 := owns_grown o1 gr7 (fun g hg e => hne g hg e)
          have hxy : ∀ g, (Value.slice a5 nh c5).ownBlock = some g → (Value.slice a7 nq c7).ownBlock ≠ some g := fun g h1 h2 => by
            rcases at7 g h2 with h | h
            · exact hne g h1 h
            · have := hlt1 g h1; omega
          refine hK.out _ _ ⟨grown_cell gr7 hH.1 hbE, grown_cell gr7 hH.2.1 hbE, grown_cell gr7 hH.2.2 hbE⟩ (fun hH => ?_)
          clear hK K gr7 at7 oE hne kW hlt1
          simp only [Act.put, List.setIfInBounds_toArray, List.set_cons_zero, List.set_cons_succ]
          refine hTake (i := 20) (v := ?_) rfl (by kernel_rfl) (by kernel_rfl) (by kernel_rfl) (by rfl) ?_ hH ?_
          rotate_left
          · intro W hW; (try dsimp only at hW); go_simp <;> with_reducible rfl
          simp only [Act.put, List.setIfInBounds_toArray, List.set_cons_zero, List.set_cons_succ]
          have kN : Below w7.heap.size w7 (w7.alloc (.cells #[.int .i64 r, .slice a5 nh c5, .slice a7 nq c7] 129)) := (Below.refl _ _).alloc (Nat.le_refl _) _
          refine wpAnyH_ready (rs := [21]) (by kernel_rfl) (by simp) ?_
          refine AllReadyH.cons rfl (fun K hK => ?_) AllReadyH.nil
          go_simp
          refine hK.out _ _ ⟨keep_cell kN hH.1, keep_cell kN hH.2.1, keep_cell kN hH.2.2⟩ (fun hH => ?_)
          clear hK K
          have bX5 := k7.trans (kN.mono k7.size)
          have ownP := own.below bX5
          have o1 := owns_below o1 kN
          have o2 := owns_below own7 kN
          have hb5 : w.heap.size ≤ (w7.alloc (.cells #[.int .i64 r, .slice a5 nh c5, .slice a7 nq c7] 129)).heap.size := Nat.le_trans hB.size bX5.size
          have hrb : (Value.slice a' k c').ownBlock ≠ some b := fun e => by have := (owns_lt own.row _ e).1; omega
          refine wpAnyH_ready (rs := [22]) (by kernel_rfl) (by simp) ?_
          refine AllReadyH.cons rfl (fun K hK => ?_) AllReadyH.nil
          refine step_appX Try.underlying36 Try.underlying36 hi0 hz0 hz1 hz2 rfl (by omega) (by omega) (.tmp 12) (.tmp 33) rfl rfl w.heap.size (.slice a' k c') k (lcells (ls.take k) vs) _ 1 1 [.int .i64 r, .slice a5 nh c5, .slice a7 nq c7] rfl rfl ownP.row (new_lock w7 r a5 nh c5 a7 nq c7 _) (lock_one' r a5 nh c5 a7 nq c7) hsum hb5 ?_
          intro a6 c6 w6 own6 gr6 at6
          refine hK.out _ _ ⟨grown_cell gr6 hH.1 hrb, grown_cell gr6 hH.2.1 hrb, grown_cell gr6 hH.2.2 hrb⟩ (fun hH => ?_)
          clear hK K
          simp only [Act.put, List.setIfInBounds_toArray, List.set_cons_zero, List.set_cons_succ]
          refine hTake (i := 23) (v := ?_) rfl (by kernel_rfl) (by kernel_rfl) (by kernel_rfl) (by rfl) ?_ hH ?_
          rotate_left
          · intro W hW; (try dsimp only at hW); go_simp <;> with_reducible rfl
          simp only [Act.put, List.setIfInBounds_toArray, List.set_cons_zero, List.set_cons_succ]
          refine wpAnyH_done (by kernel_rfl) ?_ _
          refine NoPanic.normal ?_
          go_wp2
          go_roundw
          case rel =>
            have hso : ∃ o, a6 = some ⟨o, 0, none⟩ := by
              rcases own6.2 with ⟨hv, h0⟩ | ⟨g, cp, cur, hv, _⟩
              · omega
              · simp only [Value.slice.injEq, true_and] at hv
                exact ⟨g, hv.1⟩
            have hap := apart_snoc (x := .slice a5 nh c5) (y := .slice a7 nq c7) (H := wr.heap.size) own.apart (fun g hg => (owns_lt own.row g hg).2) (fun i q hq g hg => (own.bd hq hg).2) hxy (fun g hg => (owns_lt o1 g hg).1) (fun g hg => (owns_lt o2 g hg).1)
            refine ⟨k + 1, a6, c6, by omega, by go_num, rfl, hso, ⟨vs ++ [(.slice a5 nh c5, .slice a7 nq c7)], ?_⟩, ?_⟩
            · rw [HT.out]
              exact ownP.snoc (l := ⟨r, lhs, lqs⟩) own6 gr6 at6 (by simp only; rw [← hH4.out]; exact owns_base o1 hB.size) (by simp only; rw [← hQ4.out]; exact owns_base o2 hB.size) hap
            · have b5 := hB.trans (bX5.mono hB.size)
              exact b5.grown gr6 b5.size (fun g hg => (owns_lt ownP.row g hg).1)
          case measure => simp [intOf]; omega
        rotate_left
        focus
          go_simp
          obtain ⟨oE13, kE13, lE13⟩ := alloc_empty W1 131 2
          refine hK.out _ _ ⟨keep_cell kE13 hH.1, keep_cell kE13 hH.2.1, keep_cell kE13 hH.2.2⟩ (fun hH => ?_)
          clear hK K
          have oE6 := owns_below oE6 kE13
          have kW2 := kW1.trans (kE13.mono kW1.size)
          have hee : e6 ≠ W1.heap.size := by omega
          have oE13 := owns_base (base' := wr.heap.size) oE13 kW1.size
          generalize hW1 : W1.heap.size = e13 at *
          generalize W1.alloc (.cells #[] 131) = W2 at *
          refine wpAnyH_ready (rs := [12]) (by kernel_rfl) (by simp) ?_
          refine AllReadyH.cons rfl (fun K hK => ?_) AllReadyH.nil
          refine step_appX Try.underlying127 Try.underlying127 gi0 gz0 gz1 gz2 rfl (by omega) (by omega) (.tmp 18) (.tmp 23) rfl rfl wr.heap.size (.slice (some ⟨e6, 0, none⟩) 0 0) 0 [] ah nh ch (hcells lhs) rfl rfl oE6 (h3.below kW2) (hcells_one' _) (by omega) kW2.size ?_
          intro a5 c5 w5 own5 gr5 at5
          simp only [Nat.zero_add, List.nil_append] at own5 at5 ⊢
          have k5 : Below wr.heap.size wr w5 := kW2.grown gr5 kW2.size (fun g hg => (owns_lt oE6 g hg).1)
          have hb6 : (Value.slice (some ⟨e6, 0, none⟩) 0 0).ownBlock ≠ some b := fun e => by have := (owns_lt oE6 _ e).1; omega
          refine hK.out _ _ ⟨grown_cell gr5 hH.1 hb6, grown_cell gr5 hH.2.1 hb6, grown_cell gr5 hH.2.2 hb6⟩ (fun hH => ?_)
          clear hK K
          simp only [Act.put, List.setIfInBounds_toArray, List.set_cons_zero, List.set_cons_succ]
          have hne0 : ∀ g, (Value.slice (some ⟨e13, 0, none⟩) 0 0).ownBlock = some g → (Value.slice (some ⟨e6, 0, none⟩) 0 0).ownBlock ≠ some g := fun g h1 h2 => by simp [Value.ownBlock] at h1 h2; omega
          have oE := owns_grown oE13 gr5 hne0
          have o1 := own5
          have kW := k5
          have hlt1 : ∀ g, (Value.slice a5 nh c5).ownBlock = some g → g < w5.heap.size := fun g h1 => (owns_lt o1 g h1).2
          have hne : ∀ g, (Value.slice a5 nh c5).ownBlock = some g → (Value.slice (some ⟨e13, 0, none⟩) 0 0).ownBlock ≠ some g := fun g h1 h2 => by
            rcases at5 g h1 with h | h
            · exact hne0 g h2 h
            · have := (owns_lt oE13 g h2).2; omega
          clear own5 gr5 at5 oE13 oE6 hne0
          generalize w5 = W at *
          generalize e13 = E at *
          have hbE : (Value.slice (some ⟨E, 0, none⟩) 0 0).ownBlock ≠ some b := fun e => by have := (owns_lt oE _ e).1; omega
          refine wpAnyH_ready (rs := [19]) (by kernel_rfl) (by simp) ?_
          refine AllReadyH.cons rfl (fun K hK => ?_) AllReadyH.nil
          refine step_appX Try.underlying127 Try.underlying127 gi0 gz0 gz1 gz2 rfl (by omega) (by omega) (.tmp 25) (.tmp 30) rfl rfl wr.heap.size (.slice (some ⟨E, 0, none⟩) 0 0) 0 [] aq nq cq (hcells lqs) rfl rfl oE (h4.below kW) (hcells_one' _) (by omega) kW.size ?_
          intro a7 c7 w7 own7 gr7 at7
          simp only [Nat.zero_add, List.nil_append] at own7 at7 ⊢
          have k7 : Below wr.heap.size wr w7 := kW.grown gr7 kW.size (fun g hg => (owns_lt oE g hg).1)
          have o1 := owns_grown o1 gr7 (fun g hg e => hne g hg e)
          have hxy : ∀ g, (Value.slice a5 nh c5).ownBlock = some g → (Value.slice a7 nq c7).ownBlock ≠ some g := fun g h1 h2 => by
            rcases at7 g h2 with h | h
            · exact hne g h1 h
            · have := hlt1 g h1; omega
          refine hK.out _ _ ⟨grown_cell gr7 hH.1 hbE, grown_cell gr7 hH.2.1 hbE, grown_cell gr7 hH.2.2 hbE⟩ (fun hH => ?_)
          clear hK K gr7 at7 oE hne kW hlt1
          simp only [Act.put, List.setIfInBounds_toArray, List.set_cons_zero, List.set_cons_succ]
          refine hTake (i := 20) (v := ?_) rfl (by kernel_rfl) (by kernel_rfl) (by kernel_rfl) (by rfl) ?_ hH ?_
          rotate_left
          · intro W hW; (try dsimp only at hW); go_simp <;> with_reducible rfl
          simp only [Act.put, List.setIfInBounds_toArray, List.set_cons_zero, List.set_cons_succ]
          have kN : Below w7.heap.size w7 (w7.alloc (.cells #[.int .i64 r, .slice a5 nh c5, .slice a7 nq c7] 129)) := (Below.refl _ _).alloc (Nat.le_refl _) _
          refine wpAnyH_ready (rs := [21]) (by kernel_rfl) (by simp) ?_
          refine AllReadyH.cons rfl (fun K hK => ?_) AllReadyH.nil
          go_simp
          refine hK.out _ _ ⟨keep_cell kN hH.1, keep_cell kN hH.2.1, keep_cell kN hH.2.2⟩ (fun hH => ?_)
          clear hK K
          have bX5 := k7.trans (kN.mono k7.size)
          have ownP := own.below bX5
          have o1 := owns_below o1 kN
          have o2 := owns_below own7 kN
          have hb5 : w.heap.size ≤ (w7.alloc (.cells #[.int .i64 r, .slice a5 nh c5, .slice a7 nq c7] 129)).heap.size := Nat.le_trans hB.size bX5.size
          have hrb : (Value.slice a' k c').ownBlock ≠ some b := fun e => by have := (owns_lt own.row _ e).1; omega
          refine wpAnyH_ready (rs := [22]) (by kernel_rfl) (by simp) ?_
          refine AllReadyH.cons rfl (fun K hK => ?_) AllReadyH.nil
          refine step_appX Try.underlying36 Try.underlying36 hi0 hz0 hz1 hz2 rfl (by omega) (by omega) (.tmp 12) (.tmp 33) rfl rfl w.heap.size (.slice a' k c') k (lcells (ls.take k) vs) _ 1 1 [.int .i64 r, .slice a5 nh c5, .slice a7 nq c7] rfl rfl ownP.row (new_lock w7 r a5 nh c5 a7 nq c7 _) (lock_one' r a5 nh c5 a7 nq c7) hsum hb5 ?_
          intro a6 c6 w6 own6 gr6 at6
          refine hK.out _ _ ⟨grown_cell gr6 hH.1 hrb, grown_cell gr6 hH.2.1 hrb, grown_cell gr6 hH.2.2 hrb⟩ (fun hH => ?_)
          clear hK K
          simp only [Act.put, List.setIfInBounds_toArray, List.set_cons_zero, List.set_cons_succ]
          refine hTake (i := 23) (v := ?_) rfl (by kernel_rfl) (by kernel_rfl) (by kernel_rfl) (by rfl) ?_ hH ?_
          rotate_left
          · intro W hW; (try dsimp only at hW); go_simp <;> with_reducible rfl
          simp only [Act.put, List.setIfInBounds_toArray, List.set_cons_zero, List.set_cons_succ]
          refine wpAnyH_done (by kernel_rfl) ?_ _
          refine NoPanic.normal ?_
          go_wp2
          go_roundw
          case rel =>
            have hso : ∃ o, a6 = some ⟨o, 0, none⟩ := by
              rcases own6.2 with ⟨hv, h0⟩ | ⟨g, cp, cur, hv, _⟩
              · omega
              · simp only [Value.slice.injEq, true_and] at hv
                exact ⟨g, hv.1⟩
            have hap := apart_snoc (x := .slice a5 nh c5) (y := .slice a7 nq c7) (H := wr.heap.size) own.apart (fun g hg => (owns_lt own.row g hg).2) (fun i q hq g hg => (own.bd hq hg).2) hxy (fun g hg => (owns_lt o1 g hg).1) (fun g hg => (owns_lt o2 g hg).1)
            refine ⟨k + 1, a6, c6, by omega, by go_num, rfl, hso, ⟨vs ++ [(.slice a5 nh c5, .slice a7 nq c7)], ?_⟩, ?_⟩
            · rw [HT.out]
              exact ownP.snoc (l := ⟨r, lhs, lqs⟩) own6 gr6 at6 (by simp only; rw [← hH4.out]; exact owns_base o1 hB.size) (by simp only; rw [← hQ4.out]; exact owns_base o2 hB.size) hap
            · have b5 := hB.trans (bX5.mono hB.size)
              exact b5.grown gr6 b5.size (fun g hg => (owns_lt ownP.row g hg).1)
          case measure => simp [intOf]; omega
        rotate_left
      rotate_left
      focus
        go_simp
        obtain ⟨oE13, kE13, lE13⟩ := alloc_empty V 131 2
        refine hK.out _ _ ⟨keep_cell kE13 hH.1, keep_cell kE13 hH.2.1, keep_cell kE13 hH.2.2⟩ (fun hH => ?_)
        clear hK K
        have kW1 := kV.trans (kE13.mono kV.size)
        have oE13 := owns_base (base' := wr.heap.size) oE13 kV.size
        generalize V.heap.size = e13 at *
        generalize V.alloc (.cells #[] 131) = W1 at *
        refine wpAnyH_ready (rs := [6]) (by kernel_rfl) (by simp) ?_
        refine AllReadyH.cons rfl (fun K hK => ?_) AllReadyH.nil
        go_simp
        obtain ⟨oE6, kE6, lE6⟩ := alloc_empty W1 131 2
        refine hK.out _ _ ⟨keep_cell kE6 hH.1, keep_cell kE6 hH.2.1, keep_cell kE6 hH.2.2⟩ (fun hH => ?_)
        clear hK K
        have oE13 := owns_below oE13 kE6
        have kW2 := kW1.trans (kE6.mono kW1.size)
        have hee : e13 ≠ W1.heap.size := by omega
        have oE6 := owns_base (base' := wr.heap.size) oE6 kW1.size
        generalize hW1 : W1.heap.size = e6 at *
        generalize W1.alloc (.cells #[] 131) = W2 at *
        refine wpAnyH_ready (rs := [12]) (by kernel_rfl) (by simp) ?_
        refine AllReadyH.cons rfl (fun K hK => ?_) AllReadyH.nil
        refine step_appX Try.underlying127 Try.underlying127 gi0 gz0 gz1 gz2 rfl (by omega) (by omega) (.tmp 18) (.tmp 23) rfl rfl wr.heap.size (.slice (some ⟨e6, 0, none⟩) 0 0) 0 [] ah nh ch (hcells lhs) rfl rfl oE6 (h3.below kW2) (hcells_one' _) (by omega) kW2.size ?_
        intro a5 c5 w5 own5 gr5 at5
        simp only [Nat.zero_add, List.nil_append] at own5 at5 ⊢
        have k5 : Below wr.heap.size wr w5 := kW2.grown gr5 kW2.size (fun g hg => (owns_lt oE6 g hg).1)
        have hb6 : (Value.slice (some ⟨e6, 0, none⟩) 0 0).ownBlock ≠ some b := fun e => by have := (owns_lt oE6 _ e).1; omega
        refine hK.out _ _ ⟨grown_cell gr5 hH.1 hb6, grown_cell gr5 hH.2.1 hb6, grown_cell gr5 hH.2.2 hb6⟩ (fun hH => ?_)
        clear hK K
        simp only [Act.put, List.setIfInBounds_toArray, List.set_cons_zero, List.set_cons_succ]
        have hne0 : ∀ g, (Value.slice (some ⟨e13, 0, none⟩) 0 0).ownBlock = some g → (Value.slice (some ⟨e6, 0, none⟩) 0 0).ownBlock ≠ some g := fun g h1 h2 => by simp [Value.ownBlock] at h1 h2; omega
        have oE := owns_grown oE13 gr5 hne0
        have o1 := own5
        have kW := k5
        have hlt1 : ∀ g, (Value.slice a5 nh c5).ownBlock = some g → g < w5.heap.size := fun g h1 => (owns_lt o1 g h1).2
        have hne : ∀ g, (Value.slice a5 nh c5).ownBlock = some g → (Value.slice (some ⟨e13, 0, none⟩) 0 0).ownBlock ≠ some g := fun g h1 h2 => by
          rcases at5 g h1 with h | h
          · exact hne0 g h2 h
          · have := (owns_lt oE13 g h2).2; omega
        clear own5 gr5 at5 oE13 oE6 hne0
        generalize w5 = W at *
        generalize e13 = E at *
        have hbE : (Value.slice (some ⟨E, 0, none⟩) 0 0).ownBlock ≠ some b := fun e => by have := (owns_lt oE _ e).1; omega
        refine wpAnyH_ready (rs := [19]) (by kernel_rfl) (by simp) ?_
        refine AllReadyH.cons rfl (fun K hK => ?_) AllReadyH.nil
        refine step_appX Try.underlying127 Try.underlying127 gi0 gz0 gz1 gz2 rfl (by omega) (by omega) (.tmp 25) (.tmp 30) rfl rfl wr.heap.size (.slice (some ⟨E, 0, none⟩) 0 0) 0 [] aq nq cq (hcells lqs) rfl rfl oE (h4.below kW) (hcells_one' _) (by omega) kW.size ?_
        intro a7 c7 w7 own7 gr7 at7
        simp only [Nat.zero_add, List.nil_append] at own7 at7 ⊢
        have k7 : Below wr.heap.size wr w7 := kW.grown gr7 kW.size (fun g hg => (owns_lt oE g hg).1)
        have o1 := owns_grown o1 gr7 (fun g hg e => hne g hg e)
        have hxy : ∀ g, (Value.slice a5 nh c5).ownBlock = some g → (Value.slice a7 nq c7).ownBlock ≠ some g := fun g h1 h2 => by
          rcases at7 g h2 with h | h
          · exact hne g h1 h
          · have := hlt1 g h1; omega
        refine hK.out _ _ ⟨grown_cell gr7 hH.1 hbE, grown_cell gr7 hH.2.1 hbE, grown_cell gr7 hH.2.2 hbE⟩ (fun hH => ?_)
        clear hK K gr7 at7 oE hne kW hlt1
        simp only [Act.put, List.setIfInBounds_toArray, List.set_cons_zero, List.set_cons_succ]
        refine hTake (i := 20) (v := ?_) rfl (by kernel_rfl) (by kernel_rfl) (by kernel_rfl) (by rfl) ?_ hH ?_
        rotate_left
        · intro W hW; (try dsimp only at hW); go_simp <;> with_reducible rfl
        simp only [Act.put, List.setIfInBounds_toArray, List.set_cons_zero, List.set_cons_succ]
        have kN : Below w7.heap.size w7 (w7.alloc (.cells #[.int .i64 r, .slice a5 nh c5, .slice a7 nq c7] 129)) := (Below.refl _ _).alloc (Nat.le_refl _) _
        refine wpAnyH_ready (rs := [21]) (by kernel_rfl) (by simp) ?_
        refine AllReadyH.cons rfl (fun K hK => ?_) AllReadyH.nil
        go_simp
        refine hK.out _ _ ⟨keep_cell kN hH.1, keep_cell kN hH.2.1, keep_cell kN hH.2.2⟩ (fun hH => ?_)
        clear hK K
        have bX5 := k7.trans (kN.mono k7.size)
        have ownP := own.below bX5
        have o1 := owns_below o1 kN
        have o2 := owns_below own7 kN
        have hb5 : w.heap.size ≤ (w7.alloc (.cells #[.int .i64 r, .slice a5 nh c5, .slice a7 nq c7] 129)).heap.size := Nat.le_trans hB.size bX5.size
        have hrb : (Value.slice a' k c').ownBlock ≠ some b := fun e => by have := (owns_lt own.row _ e).1; omega
        refine wpAnyH_ready (rs := [22]) (by kernel_rfl) (by simp) ?_
        refine AllReadyH.cons rfl (fun K hK => ?_) AllReadyH.nil
        refine step_appX Try.underlying36 Try.underlying36 hi0 hz0 hz1 hz2 rfl (by omega) (by omega) (.tmp 12) (.tmp 33) rfl rfl w.heap.size (.slice a' k c') k (lcells (ls.take k) vs) _ 1 1 [.int .i64 r, .slice a5 nh c5, .slice a7 nq c7] rfl rfl ownP.row (new_lock w7 r a5 nh c5 a7 nq c7 _) (lock_one' r a5 nh c5 a7 nq c7) hsum hb5 ?_
        intro a6 c6 w6 own6 gr6 at6
        refine hK.out _ _ ⟨grown_cell gr6 hH.1 hrb, grown_cell gr6 hH.2.1 hrb, grown_cell gr6 hH.2.2 hrb⟩ (fun hH => ?_)
        clear hK K
        simp only [Act.put, List.setIfInBounds_toArray, List.set_cons_zero, List.set_cons_succ]
        refine hTake (i := 23) (v := ?_) rfl (by kernel_rfl) (by kernel_rfl) (by kernel_rfl) (by rfl) ?_ hH ?_
        rotate_left
        · intro W hW; (try dsimp only at hW); go_simp <;> with_reducible rfl
        simp only [Act.put, List.setIfInBounds_toArray, List.set_cons_zero, List.set_cons_succ]
        refine wpAnyH_done (by kernel_rfl) ?_ _
        refine NoPanic.normal ?_
        go_wp2
        go_roundw
        case rel =>
          have hso : ∃ o, a6 = some ⟨o, 0, none⟩ := by
            rcases own6.2 with ⟨hv, h0⟩ | ⟨g, cp, cur, hv, _⟩
            · omega
            · simp only [Value.slice.injEq, true_and] at hv
              exact ⟨g, hv.1⟩
          have hap := apart_snoc (x := .slice a5 nh c5) (y := .slice a7 nq c7) (H := wr.heap.size) own.apart (fun g hg => (owns_lt own.row g hg).2) (fun i q hq g hg => (own.bd hq hg).2) hxy (fun g hg => (owns_lt o1 g hg).1) (fun g hg => (owns_lt o2 g hg).1)
          refine ⟨k + 1, a6, c6, by omega, by go_num, rfl, hso, ⟨vs ++ [(.slice a5 nh c5, .slice a7 nq c7)], ?_⟩, ?_⟩
          · rw [HT.out]
            exact ownP.snoc (l := ⟨r, lhs, lqs⟩) own6 gr6 at6 (by simp only; rw [← hH4.out]; exact owns_base o1 hB.size) (by simp only; rw [← hQ4.out]; exact owns_base o2 hB.size) hap
          · have b5 := hB.trans (bX5.mono hB.size)
            exact b5.grown gr6 b5.size (fun g hg => (owns_lt ownP.row g hg).1)
        case measure => simp [intOf]; omega
      rotate_left
    · obtain rfl : k = n := by omega
      have HWF : Hid (ls.take k = ls) := by have := HL.out; show _ = _; rw [this]; exact List.take_length
      rw [HWF.out] at own
      go_wp2
      go_ret
      obtain ⟨o, rfl⟩ := HSO.out
      exact ⟨o, c', rfl, ⟨vs, own⟩, hB⟩

end Go.Proofs.Ytjagobcogkdfhaa


/- l6Place. -/
namespace Go.Proofs.Ytjagobcogkdfhaa
open Go.RowKit

theorem cells_take {w : World} {a : Option Addr} {m : Nat} {xs : List Value} (h : CellsAt w a m xs) {k : Nat} (hk : k ≤ m) : CellsAt w a k (xs.take k) := by
  refine ⟨by rw [List.length_take, h.1]; omega, fun h0 => ?_⟩
  obtain ⟨b, off, ha, hc⟩ := h.2 (by omega)
  refine ⟨b, off, ha, fun i hi => ?_⟩
  rw [hc i (by omega), List.getElem?_take, if_pos hi]
theorem cells_drop {w : World} {b off m : Nat} {xs : List Value} (h : CellsAt w (some ⟨b, off, none⟩) m xs) {k : Nat} (hk : k ≤ m) : CellsAt w (some ⟨b, off + k, none⟩) (m - k) (xs.drop k) := by
  refine ⟨by rw [List.length_drop, h.1], fun hm => ?_⟩
  obtain ⟨b', off', ha, hc⟩ := h.2 (by omega)
  simp only [Option.some.injEq, Addr.mk.injEq, and_true] at ha
  obtain ⟨rfl, rfl⟩ := ha
  refine ⟨b, off + k, rfl, fun i hi => ?_⟩
  rw [List.getElem?_drop, Nat.add_assoc, hc _ (by omega)]

set_option maxRecDepth 20000 in
set_option maxHeartbeats 1000000 in
theorem l6Place_any (B o n cap : Nat) (r : Int) (ls : List Ch.Lock) (vs : List (Value × Value)) (w : World) (own : OwnK 129 w B (.slice (some ⟨o, 0, none⟩) n cap) n ls vs) (hn : n ≤ 1048576) (hB : B ≤ w.heap.size) :
    Calls Try.prog 208 #[.slice (some ⟨o, 0, none⟩) n cap, .int .i64 r] w fun e w' => ∃ a' m c', e = .returned (.tuple #[.slice a' m c', .int .i64 (Ch.placeR r ls)]) ∧ OwnLk 129 w' B (.slice a' m c') m (Ch.withL r ls) ∧ Below B w w' := by
  have HL : Hid (ls.length = n) := own.len
  have HOwn := hid own
  have h1x := hid own.one'
  have HCap := hid (owns_cap own.row)
  obtain ⟨i0, hi0, hz0, hz1, hz2⟩ := info_parts Try.info129
  go_enter Try.func208, Try.ntmps208
  go_wp2
  go_loopw [6] (fun i wr => ∃ k : Nat, k ≤ n ∧ i = .int .i64 k ∧ Hid (∀ j, j < k → (Ch.lkAt ls j).r < r) ∧ wr = w) (fun i _ => n - (intOf i).toNat)
  case atStart => exact ⟨0, Nat.zero_le _, rfl, (fun j hj => by omega), rfl⟩
  case round =>
    obtain ⟨k, hk, rfl, HA, rfl⟩ := hrel
    have HINS : (k < ls.length → r < (Ch.lkAt ls k).r) → Hid (Ch.placeR r ls = k ∧ Ch.withL r ls = ls.take k ++ [⟨r, [], []⟩] ++ ls.drop k) := fun hh => Ch.with_no (by have := HL.out; omega) HA.out hh
    by_cases hlt : k < n
    · have hkl : k < ls.length := by have := HL.out; omega
      obtain ⟨ah, ch, aq, cq, hp, c0, c1, c2, f1, f2, o1, o2, ne, nr, ob1, ob2⟩ := own.one hlt
      have HNX : Hid ((Ch.lkAt ls k).r < r → ∀ j, j < k + 1 → (Ch.lkAt ls j).r < r) := fun hh j hj => by
        rcases Nat.lt_or_eq_of_le (Nat.le_of_lt_succ hj) with h1 | h1
        · exact HA.out j h1
        · subst h1; exact hh
      have HYES : Hid ((Ch.lkAt ls k).r = r → Ch.placeR r ls = k ∧ Ch.withL r ls = ls) := fun he => Ch.with_yes (by omega) HA.out hkl he
      generalize hrr : (Ch.lkAt ls k).r = rr at *
      clear c1 c2 f1 f2 o1 o2 ne nr hp own
      by_cases h1 : rr < r
      · go_wp2
        go_roundw
        case rel => exact ⟨k + 1, by omega, by go_num, HNX.out h1, trivial⟩
        case measure => simp [intOf]; omega
      · by_cases h2 : rr = r
        · subst h2
          have HY := hid (HYES.out rfl)
          go_wp2
          exact bodyPost_ret (v := .tuple #[.slice (some ⟨o, 0, none⟩) n cap, .int .i64 k]) (by simp [results, Try.results208, go_sem]) rfl ⟨_, _, _, by rw [HY.out.1], by rw [HY.out.2]; exact ⟨vs, HOwn.out⟩, Below.refl _ _⟩
        · have HY := HINS (fun _ => by omega)
          clear HYES HNX HINS
          obtain ⟨oE, kE, lE⟩ := alloc_empty wr 129 3
          have hkc := HCap.out
          have hC1 := ((cells_take (owns_cells HOwn.out.row) (k := k * 3) (by omega)).below kE)
          have h1a : ∀ u ∈ (lcells ls vs).take (k * 3), u.oneCell' = true := fun u hu => h1x.out u (List.mem_of_mem_take hu)
          have h1b : ∀ u ∈ (lcells ls vs).drop (k * 3), u.oneCell' = true := fun u hu => h1x.out u (List.mem_of_mem_drop hu)
          have hs0 : 0 + k ≤ 4194304 := by omega
          have hs1 : k + 1 ≤ 4194304 := by omega
          have hs2 : k + 1 + (n - k) ≤ 4194304 := by omega
          go_wp2_with (first
            | (at_builtin
               refine wpList_appX Try.underlying36 Try.underlying36 hi0 hz0 hz1 hz2 rfl (by omega) (by omega) (.tmp 38) (.tmp 41) ?_ ?_ wr.heap.size (.slice (some ⟨wr.heap.size, 0, none⟩) 0 0) 0 [] (some ⟨o, 0, none⟩) k cap ((lcells ls vs).take (k * 3)) ?_ ?_ oE hC1 h1a hs0 kE.size ?_; exact rfl; exact rfl; exact rfl; exact rfl; intro a5 c5 w5 own5 gr5 at5
               simp only [Nat.zero_add, List.nil_append] at own5 ⊢
               have k5 : Below wr.heap.size wr w5 := kE.grown gr5 kE.size (fun g hg => (owns_lt oE g hg).1)
               clear gr5 at5 hC1 oE kE lE
               have kN : Below w5.heap.size w5 (w5.alloc (.cells #[.int .i64 r, .slice none 0 0, .slice none 0 0] 129)) := (Below.refl _ _).alloc (Nat.le_refl _) _
               have k6 := k5.trans (kN.mono k5.size))
            | (at_builtin
               refine wpList_appX Try.underlying36 Try.underlying36 hi0 hz0 hz1 hz2 rfl (by omega) (by omega) (.tmp 43) (.tmp 46) ?_ ?_ wr.heap.size (.slice a5 k c5) k ((lcells ls vs).take (k * 3)) _ 1 1 [.int .i64 r, .slice none 0 0, .slice none 0 0] ?_ ?_ (owns_below own5 kN) (new_lock w5 r none 0 0 none 0 0 _) (lock_one' r none 0 0 none 0 0) hs1 k6.size ?_; exact rfl; exact rfl; exact rfl; exact rfl; intro a7 c7 w7 own7 gr7 at7
               have k7 : Below wr.heap.size wr w7 := k6.grown gr7 k6.size (fun g hg => (owns_lt own5 g hg).1)
               clear gr7 at7 own5 k6 kN k5
               have hC2 := CellsAt.below (by have := cells_drop (owns_cells HOwn.out.row) (k := k * 3) (by omega); rw [Nat.zero_add, ← Nat.sub_mul] at this; exact this) k7)
            | (at_builtin
               refine wpList_appX Try.underlying36 Try.underlying36 hi0 hz0 hz1 hz2 rfl (by omega) (by omega) (.tmp 48) (.tmp 51) ?_ ?_ wr.heap.size (.slice a7 (k + 1) c7) (k + 1) _ (some ⟨o, k * 3, none⟩) (n - k) (cap - k) ((lcells ls vs).drop (k * 3)) ?_ ?_ own7 hC2 h1b hs2 k7.size ?_; exact rfl; exact rfl; exact rfl; exact rfl; intro a8 c8 w8 own8 gr8 at8
               have k8 : Below wr.heap.size wr w8 := k7.grown gr8 k7.size (fun g hg => (owns_lt own7 g hg).1)
               have en : k + 1 + (n - k) = n + 1 := by omega
               rw [en] at own8
               have hat8 : ∀ g, (Value.slice a8 (n + 1) c8).ownBlock = some g → wr.heap.size ≤ g := fun g hg => (owns_lt own8 g hg).1
               have ownI := hid (HOwn.out.ins hk (r := r) (owns_base own8 hB) (below_grown k8 _) (fun g hg => .inr (hat8 g hg)))
               have bI := hid (k8.mono hB)
               clear gr8 at8 own7 k7 hC2 own8 hat8 k8
               simp only [en]))
          exact bodyPost_ret (v := .tuple #[.slice a8 (n + 1) c8, .int .i64 k]) (by simp [results, Try.results208, go_sem]) rfl ⟨_, _, _, by rw [HY.out.1], by rw [HY.out.2]; exact ⟨_, ownI.out⟩, bI.out⟩
    · have HY := HINS (fun hh => by have := HL.out; omega)
      clear HINS
      clear own
      by_cases hck : cap = k
      · subst hck
        obtain rfl : n = cap := by have := HCap.out; omega
        obtain ⟨oE, kE, lE⟩ := alloc_empty wr 129 3
        have hkc := HCap.out
        have hC1 := ((cells_take (owns_cells HOwn.out.row) (k := n * 3) (by omega)).below kE)
        have h1a : ∀ u ∈ (lcells ls vs).take (n * 3), u.oneCell' = true := fun u hu => h1x.out u (List.mem_of_mem_take hu)
        have h1b : ∀ u ∈ (lcells ls vs).drop (n * 3), u.oneCell' = true := fun u hu => h1x.out u (List.mem_of_mem_drop hu)
        have hs0 : 0 + n ≤ 4194304 := by omega
        have hs1 : n + 1 ≤ 4194304 := by omega
        have hs2 : n + 1 + 0 ≤ 4194304 := by omega
        go_wp2_with (first
          | (at_builtin
             refine wpList_appX Try.underlying36 Try.underlying36 hi0 hz0 hz1 hz2 rfl (by omega) (by omega) (.tmp 38) (.tmp 41) ?_ ?_ wr.heap.size (.slice (some ⟨wr.heap.size, 0, none⟩) 0 0) 0 [] (some ⟨o, 0, none⟩) n n ((lcells ls vs).take (n * 3)) ?_ ?_ oE hC1 h1a hs0 kE.size ?_; exact rfl; exact rfl; exact rfl; exact rfl; intro a5 c5 w5 own5 gr5 at5
             simp only [Nat.zero_add, List.nil_append] at own5 ⊢
             have k5 : Below wr.heap.size wr w5 := kE.grown gr5 kE.size (fun g hg => (owns_lt oE g hg).1)
             clear gr5 at5 hC1 oE kE lE
             have kN : Below w5.heap.size w5 (w5.alloc (.cells #[.int .i64 r, .slice none 0 0, .slice none 0 0] 129)) := (Below.refl _ _).alloc (Nat.le_refl _) _
             have k6 := k5.trans (kN.mono k5.size))
          | (at_builtin
             refine wpList_appX Try.underlying36 Try.underlying36 hi0 hz0 hz1 hz2 rfl (by omega) (by omega) (.tmp 43) (.tmp 46) ?_ ?_ wr.heap.size (.slice a5 n c5) n ((lcells ls vs).take (n * 3)) _ 1 1 [.int .i64 r, .slice none 0 0, .slice none 0 0] ?_ ?_ (owns_below own5 kN) (new_lock w5 r none 0 0 none 0 0 _) (lock_one' r none 0 0 none 0 0) hs1 k6.size ?_; exact rfl; exact rfl; exact rfl; exact rfl; intro a7 c7 w7 own7 gr7 at7
             have k7 : Below wr.heap.size wr w7 := k6.grown gr7 k6.size (fun g hg => (owns_lt own5 g hg).1)
             clear gr7 at7 own5 k6 kN k5
             have hC2 := CellsAt.below (show CellsAt wr (some ⟨o, 0, none⟩) (0 * 3) ((lcells ls vs).drop (n * 3)) from ⟨by rw [List.length_drop, HOwn.out.row.1]; omega, fun h0 => by omega⟩) k7)
          | (at_builtin
             refine wpList_appX Try.underlying36 Try.underlying36 hi0 hz0 hz1 hz2 rfl (by omega) (by omega) (.tmp 48) (.tmp 51) ?_ ?_ wr.heap.size (.slice a7 (n + 1) c7) (n + 1) _ (some ⟨o, 0, none⟩) 0 0 ((lcells ls vs).drop (n * 3)) ?_ ?_ own7 hC2 h1b hs2 k7.size ?_; exact rfl; exact rfl; exact rfl; exact rfl; intro a8 c8 w8 own8 gr8 at8
             have k8 : Below wr.heap.size wr w8 := k7.grown gr8 k7.size (fun g hg => (owns_lt own7 g hg).1)
             have en : n + 1 + 0 = n + 1 := by omega
             rw [en] at own8
             have hat8 : ∀ g, (Value.slice a8 (n + 1) c8).ownBlock = some g → wr.heap.size ≤ g := fun g hg => (owns_lt own8 g hg).1
             have ownI := hid (HOwn.out.ins hk (r := r) (owns_base own8 hB) (below_grown k8 _) (fun g hg => .inr (hat8 g hg)))
             have bI := hid (k8.mono hB)
             clear gr8 at8 own7 k7 hC2 own8 hat8 k8
             simp only [en]))
        exact bodyPost_ret (v := .tuple #[.slice a8 (n + 1) c8, .int .i64 n]) (by simp [results, Try.results208, go_sem]) rfl ⟨_, _, _, by rw [HY.out.1], by rw [HY.out.2]; exact ⟨_, ownI.out⟩, bI.out⟩
      · skip
        obtain ⟨oE, kE, lE⟩ := alloc_empty wr 129 3
        have hkc := HCap.out
        have hC1 := ((cells_take (owns_cells HOwn.out.row) (k := k * 3) (by omega)).below kE)
        have h1a : ∀ u ∈ (lcells ls vs).take (k * 3), u.oneCell' = true := fun u hu => h1x.out u (List.mem_of_mem_take hu)
        have h1b : ∀ u ∈ (lcells ls vs).drop (k * 3), u.oneCell' = true := fun u hu => h1x.out u (List.mem_of_mem_drop hu)
        have hs0 : 0 + k ≤ 4194304 := by omega
        have hs1 : k + 1 ≤ 4194304 := by omega
        have hs2 : k + 1 + (n - k) ≤ 4194304 := by omega
        go_wp2_with (first
          | (at_builtin
             refine wpList_appX Try.underlying36 Try.underlying36 hi0 hz0 hz1 hz2 rfl (by omega) (by omega) (.tmp 38) (.tmp 41) ?_ ?_ wr.heap.size (.slice (some ⟨wr.heap.size, 0, none⟩) 0 0) 0 [] (some ⟨o, 0, none⟩) k cap ((lcells ls vs).take (k * 3)) ?_ ?_ oE hC1 h1a hs0 kE.size ?_; exact rfl; exact rfl; exact rfl; exact rfl; intro a5 c5 w5 own5 gr5 at5
             simp only [Nat.zero_add, List.nil_append] at own5 ⊢
             have k5 : Below wr.heap.size wr w5 := kE.grown gr5 kE.size (fun g hg => (owns_lt oE g hg).1)
             clear gr5 at5 hC1 oE kE lE
             have kN : Below w5.heap.size w5 (w5.alloc (.cells #[.int .i64 r, .slice none 0 0, .slice none 0 0] 129)) := (Below.refl _ _).alloc (Nat.le_refl _) _
             have k6 := k5.trans (kN.mono k5.size))
          | (at_builtin
             refine wpList_appX Try.underlying36 Try.underlying36 hi0 hz0 hz1 hz2 rfl (by omega) (by omega) (.tmp 43) (.tmp 46) ?_ ?_ wr.heap.size (.slice a5 k c5) k ((lcells ls vs).take (k * 3)) _ 1 1 [.int .i64 r, .slice none 0 0, .slice none 0 0] ?_ ?_ (owns_below own5 kN) (new_lock w5 r none 0 0 none 0 0 _) (lock_one' r none 0 0 none 0 0) hs1 k6.size ?_; exact rfl; exact rfl; exact rfl; exact rfl; intro a7 c7 w7 own7 gr7 at7
             have k7 : Below wr.heap.size wr w7 := k6.grown gr7 k6.size (fun g hg => (owns_lt own5 g hg).1)
             clear gr7 at7 own5 k6 kN k5
             have hC2 := CellsAt.below (by have := cells_drop (owns_cells HOwn.out.row) (k := k * 3) (by omega); rw [Nat.zero_add, ← Nat.sub_mul] at this; exact this) k7)
          | (at_builtin
             refine wpList_appX Try.underlying36 Try.underlying36 hi0 hz0 hz1 hz2 rfl (by omega) (by omega) (.tmp 48) (.tmp 51) ?_ ?_ wr.heap.size (.slice a7 (k + 1) c7) (k + 1) _ (some ⟨o, k * 3, none⟩) (n - k) (cap - k) ((lcells ls vs).drop (k * 3)) ?_ ?_ own7 hC2 h1b hs2 k7.size ?_; exact rfl; exact rfl; exact rfl; exact rfl; intro a8 c8 w8 own8 gr8 at8
             have k8 : Below wr.heap.size wr w8 := k7.grown gr8 k7.size (fun g hg => (owns_lt own7 g hg).1)
             have en : k + 1 + (n - k) = n + 1 := by omega
             rw [en] at own8
             have hat8 : ∀ g, (Value.slice a8 (n + 1) c8).ownBlock = some g → wr.heap.size ≤ g := fun g hg => (owns_lt own8 g hg).1
             have ownI := hid (HOwn.out.ins hk (r := r) (owns_base own8 hB) (below_grown k8 _) (fun g hg => .inr (hat8 g hg)))
             have bI := hid (k8.mono hB)
             clear gr8 at8 own7 k7 hC2 own8 hat8 k8
             simp only [en]))
        exact bodyPost_ret (v := .tuple #[.slice a8 (n + 1) c8, .int .i64 k]) (by simp [results, Try.results208, go_sem]) rfl ⟨_, _, _, by rw [HY.out.1], by rw [HY.out.2]; exact ⟨_, ownI.out⟩, bI.out⟩

end Go.Proofs.Ytjagobcogkdfhaa


/- l6Behind. -/
namespace Go.Proofs.Ytjagobcogkdfhaa
open Go.RowKit

set_option linter.unusedSimpArgs false in
set_option maxRecDepth 20000 in
set_option maxHeartbeats 1000000 in
theorem l6Behind_any (t m : Int) (B o p : Nat) (ah : Option Addr) (nh ch : Nat) (aq : Option Addr) (nq cq : Nat) (hs qs : List Ch.Hold) (w : World) (c1 : w.cell? ⟨o, p * 3 + 1, none⟩ = some (.slice ah nh ch)) (c2 : w.cell? ⟨o, p * 3 + 2, none⟩ = some (.slice aq nq cq)) (h3 : CellsAt w ah (nh * 2) (hcells hs)) (hown : w.ownsRow B 131 2 (.slice aq nq cq) nq (hcells qs)) (hn : nh ≤ 1048576) (hq : nq ≤ 1048576) :
    Calls Try.prog 212 #[.pointer (some ⟨o, p * 3, none⟩), .agg #[.int .i64 t, .int .i64 m]] w fun e w' => ∃ a' c', e = .returned (.slice a' (nq + 1) c') ∧ w'.ownsRow w.heap.size 131 2 (.slice a' (nq + 1) c') (nq + 1) (hcells (qs.take (Ch.convH hs qs) ++ [⟨t, m⟩] ++ qs.drop (Ch.convH hs qs))) ∧ Below w.heap.size w w' := by
  have h4 := owns_cells hown
  have HQ := h4.hlen
  have HCap := hid (owns_cap hown)
  have HOW := hid hown.2
  have lo := lt_of_cell c2
  obtain ⟨j0, gi0, gz0, gz1, gz2⟩ := info_parts Try.info131
  have kA : Below w.heap.size w (w.alloc (.cells #[.int .i64 t, .int .i64 m] 131)) := (Below.refl _ _).alloc (Nat.le_refl _) _
  have y0 : (w.alloc (.cells #[.int .i64 t, .int .i64 m] 131)).cell? ⟨w.heap.size, 0, none⟩ = some (.int .i64 t) := by simp [go_sem]
  have y1 : (w.alloc (.cells #[.int .i64 t, .int .i64 m] 131)).cell? ⟨w.heap.size, 1, none⟩ = some (.int .i64 m) := by simp [go_sem]
  have yl : w.heap.size < (w.alloc (.cells #[.int .i64 t, .int .i64 m] 131)).heap.size := lt_of_cell y0
  clear hown
  go_enter Try.func212, Try.ntmps212
  go_wp2
  go_loopw [5] (fun i wr => ∃ k : Nat, k ≤ nq ∧ i = .int .i64 k ∧ Hid (∀ j, j < k → Ch.hasH hs (qs.getD j Ch.Hold.zero).t = true) ∧ wr.cell? ⟨w.heap.size, 0, none⟩ = some (.int .i64 t) ∧ wr.cell? ⟨w.heap.size, 1, none⟩ = some (.int .i64 m) ∧ w.heap.size < wr.heap.size ∧ Below w.heap.size w wr) (fun i _ => nq - (intOf i).toNat)
  case atStart => exact ⟨0, Nat.zero_le _, rfl, (fun j hj => by omega), y0, y1, yl, kA⟩
  case round =>
    clear y0 y1 yl kA
    obtain ⟨k, hk, rfl, HA, z0, z1, ll, hB⟩ := hrel
    have x1 := keep_cell hB c1
    have x2 := keep_cell hB c2
    by_cases hlt : k < nq
    · have hkl : k < qs.length := by have := HQ.out; omega
      have HS := hid (fun he => Ch.step_all (p := fun j => Ch.hasH hs (qs.getD j Ch.Hold.zero).t) HA.out he)
      have HE := hid (fun he => Ch.conv_is (hs := hs) (qs := qs) (k := k) (by have := HQ.out; omega) HA.out (fun _ => he))
      obtain ⟨g, rfl⟩ : ∃ g, aq = some ⟨g, 0, none⟩ := by
        rcases HOW.out with ⟨hv, h0⟩ | ⟨g, cp, cur, hv, _⟩
        · omega
        · simp only [Value.slice.injEq, true_and] at hv
          exact ⟨g, hv.1⟩
      obtain ⟨qb, qo, hqq, q0, _⟩ := (h4.below hB).hold hlt
      simp only [Option.some.injEq, Addr.mk.injEq, and_true] at hqq
      obtain ⟨rfl, rfl⟩ := hqq
      rw [Nat.zero_add] at q0
      have hqb := lt_of_cell q0
      generalize (qs.getD k Ch.Hold.zero).t = rt at *
      clear HOW
      rcases Ch.atH_cases hs rt with ⟨he, HAT, _⟩ | ⟨j, hj, HAT, he, _⟩
      · have HAT := hid HAT
        have HCV := hid (HE.out he)
        clear he HE HS
        have hcap := HCap.out
        have hck : ¬ cq = k := by omega
        have h1a : ∀ u ∈ (hcells qs).take (k * 2), u.oneCell' = true := fun u hu => hcells_one' qs u (List.mem_of_mem_take hu)
        have h1b : ∀ u ∈ (hcells qs).drop (k * 2), u.oneCell' = true := fun u hu => hcells_one' qs u (List.mem_of_mem_drop hu)
        go_wp2_with fail
        refine wp_region_noPanic ?_
        refine wp_region_held_drew (S := fun W' => W'.cell? ⟨o, p * 3 + 1, none⟩ = some (.slice ah nh ch) ∧ W'.cell? ⟨o, p * 3 + 2, none⟩ = some (.slice (some ⟨g, 0, none⟩) nq cq) ∧ W'.cell? ⟨g, k * 2, none⟩ = some (.int .i64 rt) ∧ W'.cell? ⟨w.heap.size, 0, none⟩ = some (.int .i64 t) ∧ W'.cell? ⟨w.heap.size, 1, none⟩ = some (.int .i64 m) ∧ w.heap.size < W'.heap.size ∧ Below w.heap.size w W') (by kernel_rfl) (⟨x1, x2, q0, z0, z1, ll, hB.drew⟩) (fun hH => ?_)
        refine hTake (i := 0) (v := ?_) rfl (by kernel_rfl) (by kernel_rfl) (by kernel_rfl) (by rfl) ?_ hH ?_
        rotate_left
        · intro W hW; (try dsimp only at hW); go_simp <;> with_reducible rfl
        simp only [Act.put, List.setIfInBounds_toArray, List.set_cons_zero, List.set_cons_succ]
        refine hTake (i := 1) (v := ?_) rfl (by kernel_rfl) (by kernel_rfl) (by kernel_rfl) (by rfl) ?_ hH ?_
        rotate_left
        · intro W hW; (try dsimp only at hW); go_simp <;> with_reducible rfl
        simp only [Act.put, List.setIfInBounds_toArray, List.set_cons_zero, List.set_cons_succ]
        refine hTake (i := 2) (v := ?_) rfl (by kernel_rfl) (by kernel_rfl) (by kernel_rfl) (by rfl) ?_ hH ?_
        rotate_left
        · intro W hW; (try dsimp only at hW); go_simp <;> with_reducible rfl
        simp only [Act.put, List.setIfInBounds_toArray, List.set_cons_zero, List.set_cons_succ]
        refine hTake (i := 3) (v := ?_) rfl (by kernel_rfl) (by kernel_rfl) (by kernel_rfl) (by rfl) ?_ hH ?_
        rotate_left
        · intro W hW; (try dsimp only at hW); go_simp <;> with_reducible rfl
        simp only [Act.put, List.setIfInBounds_toArray, List.set_cons_zero, List.set_cons_succ]
        refine hTake (i := 4) (v := ?_) rfl (by kernel_rfl) (by kernel_rfl) (by kernel_rfl) (by rfl) ?_ hH ?_
        rotate_left
        · intro W hW; (try dsimp only at hW); go_simp <;> with_reducible rfl
        simp only [Act.put, List.setIfInBounds_toArray, List.set_cons_zero, List.set_cons_succ]
        refine hTake (i := 5) (v := ?_) rfl (by kernel_rfl) (by kernel_rfl) (by kernel_rfl) (by rfl) ?_ hH ?_
        rotate_left
        · intro W hW; (try dsimp only at hW); go_simp <;> with_reducible rfl
        simp only [Act.put, List.setIfInBounds_toArray, List.set_cons_zero, List.set_cons_succ]
        refine hTake (i := 6) (v := ?_) rfl (by kernel_rfl) (by kernel_rfl) (by kernel_rfl) (by rfl) ?_ hH ?_
        rotate_left
        · intro W hW; (try dsimp only at hW); go_simp <;> with_reducible rfl
        simp only [Act.put, List.setIfInBounds_toArray, List.set_cons_zero, List.set_cons_succ]
        refine hTake (i := 7) (v := ?_) rfl (by kernel_rfl) (by kernel_rfl) (by kernel_rfl) (by rfl) ?_ hH ?_
        rotate_left
        · intro W hW; (try dsimp only at hW); go_simp <;> with_reducible rfl
        simp only [Act.put, List.setIfInBounds_toArray, List.set_cons_zero, List.set_cons_succ]
        refine hTake (i := 8) (v := ?_) rfl (by kernel_rfl) (by kernel_rfl) (by kernel_rfl) (by rfl) ?_ hH ?_
        rotate_left
        · intro W hW; (try dsimp only at hW); go_simp <;> with_reducible rfl
        simp only [Act.put, List.setIfInBounds_toArray, List.set_cons_zero, List.set_cons_succ]
        refine hTake (i := 9) (v := ?_) rfl (by kernel_rfl) (by kernel_rfl) (by kernel_rfl) (by rfl) ?_ hH ?_
        rotate_left
        · intro W hW; (try dsimp only at hW); go_simp <;> with_reducible rfl
        simp only [Act.put, List.setIfInBounds_toArray, List.set_cons_zero, List.set_cons_succ]
        refine hTake (i := 10) (v := ?_) rfl (by kernel_rfl) (by kernel_rfl) (by kernel_rfl) (by rfl) ?_ hH ?_
        rotate_left
        · intro W hW; (try dsimp only at hW); go_simp <;> with_reducible rfl
        simp only [Act.put, List.setIfInBounds_toArray, List.set_cons_zero, List.set_cons_succ]
        refine hTake (i := 11) (v := ?_) rfl (by kernel_rfl) (by kernel_rfl) (by kernel_rfl) (by rfl) ?_ hH ?_
        rotate_left
        · intro W hW; (try dsimp only at hW); go_simp <;> with_reducible rfl
        simp only [Act.put, List.setIfInBounds_toArray, List.set_cons_zero, List.set_cons_succ]
        refine hTake (i := 12) (v := ?_) rfl (by kernel_rfl) (by kernel_rfl) (by kernel_rfl) (by rfl) ?_ hH ?_
        rotate_left
        · intro W hW; (try dsimp only at hW); go_simp <;> with_reducible rfl
        simp only [Act.put, List.setIfInBounds_toArray, List.set_cons_zero, List.set_cons_succ]
        refine hTake (i := 13) (v := ?_) rfl (by kernel_rfl) (by kernel_rfl) (by kernel_rfl) (by rfl) ?_ hH ?_
        rotate_left
        · intro W hW; (try dsimp only at hW); go_simp <;> with_reducible rfl
        simp only [Act.put, List.setIfInBounds_toArray, List.set_cons_zero, List.set_cons_succ]
        refine hTake (i := 14) (v := ?_) rfl (by kernel_rfl) (by kernel_rfl) (by kernel_rfl) (by rfl) ?_ hH ?_
        rotate_left
        · intro W hW; (try dsimp only at hW); go_simp <;> with_reducible rfl
        simp only [Act.put, List.setIfInBounds_toArray, List.set_cons_zero, List.set_cons_succ]
        refine hTake (i := 15) (v := ?_) rfl (by kernel_rfl) (by kernel_rfl) (by kernel_rfl) (by rfl) ?_ hH ?_
        rotate_left
        · intro W hW; (try dsimp only at hW); go_simp <;> with_reducible rfl
        simp only [Act.put, List.setIfInBounds_toArray, List.set_cons_zero, List.set_cons_succ]
        refine hTake (i := 16) (v := ?_) rfl (by kernel_rfl) (by kernel_rfl) (by kernel_rfl) (by rfl) ?_ hH ?_
        rotate_left
        · intro W hW; (try dsimp only at hW); go_simp <;> with_reducible rfl
        simp only [Act.put, List.setIfInBounds_toArray, List.set_cons_zero, List.set_cons_succ]
        refine hTake (i := 17) (v := ?_) rfl (by kernel_rfl) (by kernel_rfl) (by kernel_rfl) (by rfl) ?_ hH ?_
        rotate_left
        · intro W hW; (try dsimp only at hW); go_simp <;> with_reducible rfl
        simp only [Act.put, List.setIfInBounds_toArray, List.set_cons_zero, List.set_cons_succ]
        refine hTake (i := 18) (v := ?_) rfl (by kernel_rfl) (by kernel_rfl) (by kernel_rfl) (by rfl) ?_ hH ?_
        rotate_left
        · intro W hW; (try dsimp only at hW); go_simp <;> with_reducible rfl
        simp only [Act.put, List.setIfInBounds_toArray, List.set_cons_zero, List.set_cons_succ]
        refine hTake (i := 19) (v := ?_) rfl (by kernel_rfl) (by kernel_rfl) (by kernel_rfl) (by rfl) ?_ hH ?_
        rotate_left
        · intro W hW; (try dsimp only at hW); go_simp <;> with_reducible rfl
        simp only [Act.put, List.setIfInBounds_toArray, List.set_cons_zero, List.set_cons_succ]
        refine wpAnyH_ready (rs := [20]) (by kernel_rfl) (by simp) ?_
        refine AllReadyH.cons rfl (fun K hK => ?_) AllReadyH.nil
        go_simp
        refine (l6At_any ah nh ch rt hs _ (h3.below hH.2.2.2.2.2.2) hn).mono ?_
        rintro e w2 ⟨rfl, rfl⟩
        rw [HAT.out]
        go_wp2_with fail
        refine hK.out _ _ ?_ (fun hH => ?_)
        · exact hH
        clear hK K
        refine hTake (i := 21) (v := ?_) rfl (by kernel_rfl) (by kernel_rfl) (by kernel_rfl) (by rfl) ?_ hH ?_
        rotate_left
        · intro W hW; (try dsimp only at hW); go_simp <;> with_reducible rfl
        simp only [Act.put, List.setIfInBounds_toArray, List.set_cons_zero, List.set_cons_succ]
        refine hTake (i := 22) (v := ?_) rfl (by kernel_rfl) (by kernel_rfl) (by kernel_rfl) (by rfl) ?_ hH ?_
        rotate_left
        · intro W hW; (try dsimp only at hW); go_simp <;> with_reducible rfl
        simp only [Act.put, List.setIfInBounds_toArray, List.set_cons_zero, List.set_cons_succ]
        refine wpAnyH_done (by kernel_rfl) ?_ _
        refine NoPanic.normal ?_
        have u2 := hH.2.1
        have z0 := hH.2.2.2.1
        have z1 := hH.2.2.2.2.1
        have lU0 := hH.2.2.2.2.2.1
        have kU0 := hH.2.2.2.2.2.2
        clear hH
        clear x1 x2 hB ll
        generalize wr.drew = U0 at *
        obtain ⟨oE, kE, lE⟩ := alloc_empty U0 131 2
        have e2 := keep_cell kE u2
        have kW1 := kU0.trans (kE.mono (by omega))
        have lW1 : w.heap.size < (U0.alloc (.cells #[] 131)).heap.size := by omega
        have oE := owns_base (base' := w.heap.size + 1) oE (by omega)
        have hC1 := ((cells_take (k := k * 2) h4 (by omega)).below kW1)
        have hs0 : 0 + k ≤ 4194304 := by omega
        have hb0 : w.heap.size + 1 ≤ (U0.alloc (.cells #[] 131)).heap.size := by omega
        go_wp2_with (at_builtin
                     go_must (refine wpList_appX Try.underlying127 Try.underlying127 gi0 gz0 gz1 gz2 rfl (by omega) (by omega) (.tmp 32) (.tmp 38) ?_ ?_ (w.heap.size + 1) (.slice (some ⟨U0.heap.size, 0, none⟩) 0 0) 0 [] (some ⟨g, 0, none⟩) k cq ((hcells qs).take (k * 2)) ?_ ?_ oE hC1 h1a hs0 hb0 ?_; exact rfl; exact rfl; exact rfl; exact rfl; intro a5 c5 w5 own5 gr5 at5)
                     simp only [Nat.zero_add, List.nil_append] at own5 ⊢)
        have k5 : Below w.heap.size w w5 := kW1.grown gr5 kW1.size (fun g hg => by have := (owns_lt oE g hg).1; omega)
        have l5 : w.heap.size < w5.heap.size := Nat.lt_of_lt_of_le lW1 gr5.size
        have hH : w5.cell? ⟨o, p * 3 + 2, none⟩ = some (.slice (some ⟨g, 0, none⟩) nq cq) ∧ w5.cell? ⟨w.heap.size, 0, none⟩ = some (.int .i64 t) ∧ w5.cell? ⟨w.heap.size, 1, none⟩ = some (.int .i64 m) := ⟨grown_cell gr5 e2 (fun e => by have := (owns_lt oE _ e).1; omega), grown_cell gr5 (keep_cell kE z0) (fun e => by have := (owns_lt oE _ e).1; omega), grown_cell gr5 (keep_cell kE z1) (fun e => by have := (owns_lt oE _ e).1; omega)⟩
        clear gr5 at5 oE kE lE hC1 kW1 lW1 e2 u2 z0 z1
        refine wp_region_noPanic ?_
        refine wp_region_held_drew (S := fun W' => W'.cell? ⟨o, p * 3 + 2, none⟩ = some (.slice (some ⟨g, 0, none⟩) nq cq) ∧ W'.cell? ⟨w.heap.size, 0, none⟩ = some (.int .i64 t) ∧ W'.cell? ⟨w.heap.size, 1, none⟩ = some (.int .i64 m)) (by kernel_rfl) (hH) (fun hH => ?_)
        have kX : Below w.heap.size w w5.drew := k5.drew
        have lX : w.heap.size < w5.drew.heap.size := l5
        have own5 := owns_below own5 ((Below.refl _ _).drew : Below w5.heap.size w5 w5.drew)
        generalize w5.drew = X at *
        refine hTake (i := 0) (v := ?_) rfl (by kernel_rfl) (by kernel_rfl) (by kernel_rfl) (by rfl) ?_ hH ?_
        rotate_left
        · intro W hW; (try dsimp only at hW); go_simp <;> with_reducible rfl
        simp only [Act.put, List.setIfInBounds_toArray, List.set_cons_zero, List.set_cons_succ]
        refine hTake (i := 1) (v := ?_) rfl (by kernel_rfl) (by kernel_rfl) (by kernel_rfl) (by rfl) ?_ hH ?_
        rotate_left
        · intro W hW; (try dsimp only at hW); go_simp <;> with_reducible rfl
        simp only [Act.put, List.setIfInBounds_toArray, List.set_cons_zero, List.set_cons_succ]
        refine hTake (i := 4) (v := ?_) rfl (by kernel_rfl) (by kernel_rfl) (by kernel_rfl) (by rfl) ?_ hH ?_
        rotate_left
        · intro W hW; (try dsimp only at hW); go_simp <;> with_reducible rfl
        simp only [Act.put, List.setIfInBounds_toArray, List.set_cons_zero, List.set_cons_succ]
        refine hTake (i := 5) (v := ?_) rfl (by kernel_rfl) (by kernel_rfl) (by kernel_rfl) (by rfl) ?_ hH ?_
        rotate_left
        · intro W hW; (try dsimp only at hW); go_simp <;> with_reducible rfl
        simp only [Act.put, List.setIfInBounds_toArray, List.set_cons_zero, List.set_cons_succ]
        refine hTake (i := 6) (v := ?_) rfl (by kernel_rfl) (by kernel_rfl) (by kernel_rfl) (by rfl) ?_ hH ?_
        rotate_left
        · intro W hW; (try dsimp only at hW); go_simp <;> with_reducible rfl
        simp only [Act.put, List.setIfInBounds_toArray, List.set_cons_zero, List.set_cons_succ]
        refine hTake (i := 7) (v := ?_) rfl (by kernel_rfl) (by kernel_rfl) (by kernel_rfl) (by rfl) ?_ hH ?_
        rotate_left
        · intro W hW; (try dsimp only at hW); go_simp <;> with_reducible rfl
        simp only [Act.put, List.setIfInBounds_toArray, List.set_cons_zero, List.set_cons_succ]
        refine hTake (i := 8) (v := ?_) rfl (by kernel_rfl) (by kernel_rfl) (by kernel_rfl) (by rfl) ?_ hH ?_
        rotate_left
        · intro W hW; (try dsimp only at hW); go_simp <;> with_reducible rfl
        simp only [Act.put, List.setIfInBounds_toArray, List.set_cons_zero, List.set_cons_succ]
        refine hTake (i := 9) (v := ?_) rfl (by kernel_rfl) (by kernel_rfl) (by kernel_rfl) (by rfl) ?_ hH ?_
        rotate_left
        · intro W hW; (try dsimp only at hW); go_simp <;> with_reducible rfl
        simp only [Act.put, List.setIfInBounds_toArray, List.set_cons_zero, List.set_cons_succ]
        have kN : Below X.heap.size X (X.alloc (.cells #[.int .i64 t, .int .i64 m] 131)) := (Below.refl _ _).alloc (Nat.le_refl _) _
        have hCN := new_hold X t m 131
        refine wpAnyH_ready (rs := [2]) (by kernel_rfl) (by simp) ?_
        refine AllReadyH.cons rfl (fun K hK => ?_) AllReadyH.nil
        go_simp
        refine hK.out _ _ ⟨keep_cell kN hH.1, keep_cell kN hH.2.1, keep_cell kN hH.2.2⟩ (fun hH => ?_)
        clear hK K
        have kX1 := kX.trans (kN.mono (by omega))
        have lX1 : w.heap.size < (X.alloc (.cells #[.int .i64 t, .int .i64 m] 131)).heap.size := Nat.lt_of_lt_of_le lX kN.size
        have own5 := owns_below own5 kN
        refine wpAnyH_ready (rs := [3]) (by kernel_rfl) (by simp) ?_
        refine AllReadyH.cons rfl (fun K hK => ?_) AllReadyH.nil
        refine step_appX Try.underlying127 Try.underlying127 gi0 gz0 gz1 gz2 rfl (by omega) (by omega) (.tmp 40) (.tmp 42) rfl rfl (w.heap.size + 1) (.slice a5 k c5) k ((hcells qs).take (k * 2)) _ 1 1 (hcells [⟨t, m⟩]) rfl rfl own5 hCN (hcells_one' _) (by omega) (by omega) ?_
        intro a7 c7 w7 own7 gr7 at7
        have k7 : Below w.heap.size w w7 := kX1.grown gr7 kX1.size (fun g hg => by have := (owns_lt own5 g hg).1; omega)
        have l7 : w.heap.size < w7.heap.size := Nat.lt_of_lt_of_le lX1 gr7.size
        refine hK.out _ _ ⟨grown_cell gr7 hH.1 (fun e => by have := (owns_lt own5 _ e).1; omega), grown_cell gr7 hH.2.1 (fun e => by have := (owns_lt own5 _ e).1; omega), grown_cell gr7 hH.2.2 (fun e => by have := (owns_lt own5 _ e).1; omega)⟩ (fun hH => ?_)
        clear hK K gr7 at7 own5 kX1 lX1 hCN kN
        simp only [Act.put, List.setIfInBounds_toArray, List.set_cons_zero, List.set_cons_succ]
        have hC2 := CellsAt.below (by have := cells_drop h4 (k := k * 2) (by omega); rw [Nat.zero_add, ← Nat.sub_mul] at this; exact this) k7
        refine wpAnyH_ready (rs := [10]) (by kernel_rfl) (by simp) ?_
        refine AllReadyH.cons rfl (fun K hK => ?_) AllReadyH.nil
        refine step_appX Try.underlying127 Try.underlying127 gi0 gz0 gz1 gz2 rfl (by omega) (by omega) (.tmp 43) (.tmp 49) rfl rfl (w.heap.size + 1) (.slice a7 (k + 1) c7) (k + 1) _ (some ⟨g, k * 2, none⟩) (nq - k) (cq - k) ((hcells qs).drop (k * 2)) rfl rfl own7 hC2 h1b (by omega) (by omega) ?_
        intro a8 c8 w8 own8 gr8 at8
        have k8 : Below w.heap.size w w8 := k7.grown gr8 k7.size (fun g hg => by have := (owns_lt own7 g hg).1; omega)
        refine hK.out _ _ ⟨grown_cell gr8 hH.1 (fun e => by have := (owns_lt own7 _ e).1; omega), grown_cell gr8 hH.2.1 (fun e => by have := (owns_lt own7 _ e).1; omega), grown_cell gr8 hH.2.2 (fun e => by have := (owns_lt own7 _ e).1; omega)⟩ (fun hH => ?_)
        clear hK K gr8 at8 own7 k7 l7 hC2
        simp only [Act.put, List.setIfInBounds_toArray, List.set_cons_zero, List.set_cons_succ]
        refine hTake (i := 11) (v := ?_) rfl (by kernel_rfl) (by kernel_rfl) (by kernel_rfl) (by rfl) ?_ hH ?_
        rotate_left
        · intro W hW; (try dsimp only at hW); go_simp <;> with_reducible rfl
        simp only [Act.put, List.setIfInBounds_toArray, List.set_cons_zero, List.set_cons_succ]
        refine wpAnyH_done (by kernel_rfl) ?_ _
        refine NoPanic.normal ?_
        have en : k + 1 + (nq - k) = nq + 1 := by omega
        simp only [en] at own8 ⊢
        rw [← hcells_take, ← hcells_drop, ← hcells_append, ← hcells_append] at own8
        have O8 := hid (owns_base (base' := w.heap.size) own8 (by omega))
        clear own8
        go_wp2
        exact bodyPost_ret (v := .slice a8 (nq + 1) c8) (by simp [results, Try.results212, go_sem]) rfl ⟨_, _, rfl, by
          rw [HCV.out]
          first | exact O8.out | (have h9 := O8.out; simp only [List.append_assoc, List.cons_append, List.nil_append] at h9; exact h9), k8⟩
      · have HAT := hid HAT
        have HS := hid (HS.out he)
        clear he HE
        go_wp2_with fail
        refine wp_region_noPanic ?_
        refine wp_region_held_drew (S := fun W' => W'.cell? ⟨o, p * 3 + 1, none⟩ = some (.slice ah nh ch) ∧ W'.cell? ⟨o, p * 3 + 2, none⟩ = some (.slice (some ⟨g, 0, none⟩) nq cq) ∧ W'.cell? ⟨g, k * 2, none⟩ = some (.int .i64 rt) ∧ W'.cell? ⟨w.heap.size, 0, none⟩ = some (.int .i64 t) ∧ W'.cell? ⟨w.heap.size, 1, none⟩ = some (.int .i64 m) ∧ w.heap.size < W'.heap.size ∧ Below w.heap.size w W') (by kernel_rfl) (⟨x1, x2, q0, z0, z1, ll, hB.drew⟩) (fun hH => ?_)
        refine hTake (i := 0) (v := ?_) rfl (by kernel_rfl) (by kernel_rfl) (by kernel_rfl) (by rfl) ?_ hH ?_
        rotate_left
        · intro W hW; (try dsimp only at hW); go_simp <;> with_reducible rfl
        simp only [Act.put, List.setIfInBounds_toArray, List.set_cons_zero, List.set_cons_succ]
        refine hTake (i := 1) (v := ?_) rfl (by kernel_rfl) (by kernel_rfl) (by kernel_rfl) (by rfl) ?_ hH ?_
        rotate_left
        · intro W hW; (try dsimp only at hW); go_simp <;> with_reducible rfl
        simp only [Act.put, List.setIfInBounds_toArray, List.set_cons_zero, List.set_cons_succ]
        refine hTake (i := 2) (v := ?_) rfl (by kernel_rfl) (by kernel_rfl) (by kernel_rfl) (by rfl) ?_ hH ?_
        rotate_left
        · intro W hW; (try dsimp only at hW); go_simp <;> with_reducible rfl
        simp only [Act.put, List.setIfInBounds_toArray, List.set_cons_zero, List.set_cons_succ]
        refine hTake (i := 3) (v := ?_) rfl (by kernel_rfl) (by kernel_rfl) (by kernel_rfl) (by rfl) ?_ hH ?_
        rotate_left
        · intro W hW; (try dsimp only at hW); go_simp <;> with_reducible rfl
        simp only [Act.put, List.setIfInBounds_toArray, List.set_cons_zero, List.set_cons_succ]
        refine hTake (i := 4) (v := ?_) rfl (by kernel_rfl) (by kernel_rfl) (by kernel_rfl) (by rfl) ?_ hH ?_
        rotate_left
        · intro W hW; (try dsimp only at hW); go_simp <;> with_reducible rfl
        simp only [Act.put, List.setIfInBounds_toArray, List.set_cons_zero, List.set_cons_succ]
        refine hTake (i := 5) (v := ?_) rfl (by kernel_rfl) (by kernel_rfl) (by kernel_rfl) (by rfl) ?_ hH ?_
        rotate_left
        · intro W hW; (try dsimp only at hW); go_simp <;> with_reducible rfl
        simp only [Act.put, List.setIfInBounds_toArray, List.set_cons_zero, List.set_cons_succ]
        refine hTake (i := 6) (v := ?_) rfl (by kernel_rfl) (by kernel_rfl) (by kernel_rfl) (by rfl) ?_ hH ?_
        rotate_left
        · intro W hW; (try dsimp only at hW); go_simp <;> with_reducible rfl
        simp only [Act.put, List.setIfInBounds_toArray, List.set_cons_zero, List.set_cons_succ]
        refine hTake (i := 7) (v := ?_) rfl (by kernel_rfl) (by kernel_rfl) (by kernel_rfl) (by rfl) ?_ hH ?_
        rotate_left
        · intro W hW; (try dsimp only at hW); go_simp <;> with_reducible rfl
        simp only [Act.put, List.setIfInBounds_toArray, List.set_cons_zero, List.set_cons_succ]
        refine hTake (i := 8) (v := ?_) rfl (by kernel_rfl) (by kernel_rfl) (by kernel_rfl) (by rfl) ?_ hH ?_
        rotate_left
        · intro W hW; (try dsimp only at hW); go_simp <;> with_reducible rfl
        simp only [Act.put, List.setIfInBounds_toArray, List.set_cons_zero, List.set_cons_succ]
        refine hTake (i := 9) (v := ?_) rfl (by kernel_rfl) (by kernel_rfl) (by kernel_rfl) (by rfl) ?_ hH ?_
        rotate_left
        · intro W hW; (try dsimp only at hW); go_simp <;> with_reducible rfl
        simp only [Act.put, List.setIfInBounds_toArray, List.set_cons_zero, List.set_cons_succ]
        refine hTake (i := 10) (v := ?_) rfl (by kernel_rfl) (by kernel_rfl) (by kernel_rfl) (by rfl) ?_ hH ?_
        rotate_left
        · intro W hW; (try dsimp only at hW); go_simp <;> with_reducible rfl
        simp only [Act.put, List.setIfInBounds_toArray, List.set_cons_zero, List.set_cons_succ]
        refine hTake (i := 11) (v := ?_) rfl (by kernel_rfl) (by kernel_rfl) (by kernel_rfl) (by rfl) ?_ hH ?_
        rotate_left
        · intro W hW; (try dsimp only at hW); go_simp <;> with_reducible rfl
        simp only [Act.put, List.setIfInBounds_toArray, List.set_cons_zero, List.set_cons_succ]
        refine hTake (i := 12) (v := ?_) rfl (by kernel_rfl) (by kernel_rfl) (by kernel_rfl) (by rfl) ?_ hH ?_
        rotate_left
        · intro W hW; (try dsimp only at hW); go_simp <;> with_reducible rfl
        simp only [Act.put, List.setIfInBounds_toArray, List.set_cons_zero, List.set_cons_succ]
        refine hTake (i := 13) (v := ?_) rfl (by kernel_rfl) (by kernel_rfl) (by kernel_rfl) (by rfl) ?_ hH ?_
        rotate_left
        · intro W hW; (try dsimp only at hW); go_simp <;> with_reducible rfl
        simp only [Act.put, List.setIfInBounds_toArray, List.set_cons_zero, List.set_cons_succ]
        refine hTake (i := 14) (v := ?_) rfl (by kernel_rfl) (by kernel_rfl) (by kernel_rfl) (by rfl) ?_ hH ?_
        rotate_left
        · intro W hW; (try dsimp only at hW); go_simp <;> with_reducible rfl
        simp only [Act.put, List.setIfInBounds_toArray, List.set_cons_zero, List.set_cons_succ]
        refine hTake (i := 15) (v := ?_) rfl (by kernel_rfl) (by kernel_rfl) (by kernel_rfl) (by rfl) ?_ hH ?_
        rotate_left
        · intro W hW; (try dsimp only at hW); go_simp <;> with_reducible rfl
        simp only [Act.put, List.setIfInBounds_toArray, List.set_cons_zero, List.set_cons_succ]
        refine hTake (i := 16) (v := ?_) rfl (by kernel_rfl) (by kernel_rfl) (by kernel_rfl) (by rfl) ?_ hH ?_
        rotate_left
        · intro W hW; (try dsimp only at hW); go_simp <;> with_reducible rfl
        simp only [Act.put, List.setIfInBounds_toArray, List.set_cons_zero, List.set_cons_succ]
        refine hTake (i := 17) (v := ?_) rfl (by kernel_rfl) (by kernel_rfl) (by kernel_rfl) (by rfl) ?_ hH ?_
        rotate_left
        · intro W hW; (try dsimp only at hW); go_simp <;> with_reducible rfl
        simp only [Act.put, List.setIfInBounds_toArray, List.set_cons_zero, List.set_cons_succ]
        refine hTake (i := 18) (v := ?_) rfl (by kernel_rfl) (by kernel_rfl) (by kernel_rfl) (by rfl) ?_ hH ?_
        rotate_left
        · intro W hW; (try dsimp only at hW); go_simp <;> with_reducible rfl
        simp only [Act.put, List.setIfInBounds_toArray, List.set_cons_zero, List.set_cons_succ]
        refine hTake (i := 19) (v := ?_) rfl (by kernel_rfl) (by kernel_rfl) (by kernel_rfl) (by rfl) ?_ hH ?_
        rotate_left
        · intro W hW; (try dsimp only at hW); go_simp <;> with_reducible rfl
        simp only [Act.put, List.setIfInBounds_toArray, List.set_cons_zero, List.set_cons_succ]
        refine wpAnyH_ready (rs := [20]) (by kernel_rfl) (by simp) ?_
        refine AllReadyH.cons rfl (fun K hK => ?_) AllReadyH.nil
        go_simp
        refine (l6At_any ah nh ch rt hs _ (h3.below hH.2.2.2.2.2.2) hn).mono ?_
        rintro e w2 ⟨rfl, rfl⟩
        rw [HAT.out]
        go_wp2_with fail
        refine hK.out _ _ ?_ (fun hH => ?_)
        · exact hH
        clear hK K
        refine hTake (i := 21) (v := ?_) rfl (by kernel_rfl) (by kernel_rfl) (by kernel_rfl) (by rfl) ?_ hH ?_
        rotate_left
        · intro W hW; (try dsimp only at hW); go_simp <;> with_reducible rfl
        simp only [Act.put, List.setIfInBounds_toArray, List.set_cons_zero, List.set_cons_succ]
        refine hTake (i := 22) (v := ?_) rfl (by kernel_rfl) (by kernel_rfl) (by kernel_rfl) (by rfl) ?_ hH ?_
        rotate_left
        · intro W hW; (try dsimp only at hW); go_simp <;> with_reducible rfl
        simp only [Act.put, List.setIfInBounds_toArray, List.set_cons_zero, List.set_cons_succ]
        refine wpAnyH_done (by kernel_rfl) ?_ _
        refine NoPanic.normal ?_
        have u2 := hH.2.1
        have z0 := hH.2.2.2.1
        have z1 := hH.2.2.2.2.1
        have lU0 := hH.2.2.2.2.2.1
        have kU0 := hH.2.2.2.2.2.2
        clear hH
        go_wp2
        go_roundw
        case rel => exact ⟨k + 1, by omega, by go_num, HS.out, z0, z1, lU0, kU0⟩
        case measure => simp [intOf]; omega
    · have HCV := hid (Ch.conv_is (hs := hs) (qs := qs) (k := k) (by have := HQ.out; omega) HA.out (fun h => by have := HQ.out; omega))
      obtain rfl : k = nq := by omega
      have hcap := HCap.out
      have h1a : ∀ u ∈ (hcells qs).take (k * 2), u.oneCell' = true := fun u hu => hcells_one' qs u (List.mem_of_mem_take hu)
      have h1b : ∀ u ∈ (hcells qs).drop (k * 2), u.oneCell' = true := fun u hu => hcells_one' qs u (List.mem_of_mem_drop hu)
      rcases HOW.out with ⟨hv, h0⟩ | ⟨g, cp, cur, hv, _⟩
      · simp only [Value.slice.injEq] at hv
        obtain ⟨rfl, rfl, rfl⟩ := hv
        go_wp2_with fail
        refine wp_region_noPanic ?_
        refine wp_region_held_drew (S := fun W' => W'.cell? ⟨o, p * 3 + 1, none⟩ = some (.slice ah nh ch) ∧ W'.cell? ⟨o, p * 3 + 2, none⟩ = some (.slice none 0 0) ∧ W'.cell? ⟨w.heap.size, 0, none⟩ = some (.int .i64 t) ∧ W'.cell? ⟨w.heap.size, 1, none⟩ = some (.int .i64 m) ∧ w.heap.size < W'.heap.size ∧ Below w.heap.size w W') (by kernel_rfl) (⟨x1, x2, z0, z1, ll, hB.drew⟩) (fun hH => ?_)
        refine hTake (i := 0) (v := ?_) rfl (by kernel_rfl) (by kernel_rfl) (by kernel_rfl) (by rfl) ?_ hH ?_
        rotate_left
        · intro W hW; (try dsimp only at hW); go_simp <;> with_reducible rfl
        simp only [Act.put, List.setIfInBounds_toArray, List.set_cons_zero, List.set_cons_succ]
        refine hTake (i := 1) (v := ?_) rfl (by kernel_rfl) (by kernel_rfl) (by kernel_rfl) (by rfl) ?_ hH ?_
        rotate_left
        · intro W hW; (try dsimp only at hW); go_simp <;> with_reducible rfl
        simp only [Act.put, List.setIfInBounds_toArray, List.set_cons_zero, List.set_cons_succ]
        refine hTake (i := 2) (v := ?_) rfl (by kernel_rfl) (by kernel_rfl) (by kernel_rfl) (by rfl) ?_ hH ?_
        rotate_left
        · intro W hW; (try dsimp only at hW); go_simp <;> with_reducible rfl
        simp only [Act.put, List.setIfInBounds_toArray, List.set_cons_zero, List.set_cons_succ]
        refine hTake (i := 3) (v := ?_) rfl (by kernel_rfl) (by kernel_rfl) (by kernel_rfl) (by rfl) ?_ hH ?_
        rotate_left
        · intro W hW; (try dsimp only at hW); go_simp <;> with_reducible rfl
        simp only [Act.put, List.setIfInBounds_toArray, List.set_cons_zero, List.set_cons_succ]
        refine hTake (i := 4) (v := ?_) rfl (by kernel_rfl) (by kernel_rfl) (by kernel_rfl) (by rfl) ?_ hH ?_
        rotate_left
        · intro W hW; (try dsimp only at hW); go_simp <;> with_reducible rfl
        simp only [Act.put, List.setIfInBounds_toArray, List.set_cons_zero, List.set_cons_succ]
        refine hTake (i := 5) (v := ?_) rfl (by kernel_rfl) (by kernel_rfl) (by kernel_rfl) (by rfl) ?_ hH ?_
        rotate_left
        · intro W hW; (try dsimp only at hW); go_simp <;> with_reducible rfl
        simp only [Act.put, List.setIfInBounds_toArray, List.set_cons_zero, List.set_cons_succ]
        refine hTake (i := 6) (v := ?_) rfl (by kernel_rfl) (by kernel_rfl) (by kernel_rfl) (by rfl) ?_ hH ?_
        rotate_left
        · intro W hW; (try dsimp only at hW); go_simp <;> with_reducible rfl
        simp only [Act.put, List.setIfInBounds_toArray, List.set_cons_zero, List.set_cons_succ]
        refine hTake (i := 7) (v := ?_) rfl (by kernel_rfl) (by kernel_rfl) (by kernel_rfl) (by rfl) ?_ hH ?_
        rotate_left
        · intro W hW; (try dsimp only at hW); go_simp <;> with_reducible rfl
        simp only [Act.put, List.setIfInBounds_toArray, List.set_cons_zero, List.set_cons_succ]
        refine hSkip (i := 8) rfl (by kernel_rfl) (by kernel_rfl) (by kernel_rfl) (by rfl) hH ?_
        simp only [Act.put, List.setIfInBounds_toArray, List.set_cons_zero, List.set_cons_succ]
        refine hSkip (i := 9) rfl (by kernel_rfl) (by kernel_rfl) (by kernel_rfl) (by rfl) hH ?_
        simp only [Act.put, List.setIfInBounds_toArray, List.set_cons_zero, List.set_cons_succ]
        refine hSkip (i := 10) rfl (by kernel_rfl) (by kernel_rfl) (by kernel_rfl) (by rfl) hH ?_
        simp only [Act.put, List.setIfInBounds_toArray, List.set_cons_zero, List.set_cons_succ]
        refine hSkip (i := 11) rfl (by kernel_rfl) (by kernel_rfl) (by kernel_rfl) (by rfl) hH ?_
        simp only [Act.put, List.setIfInBounds_toArray, List.set_cons_zero, List.set_cons_succ]
        refine hSkip (i := 12) rfl (by kernel_rfl) (by kernel_rfl) (by kernel_rfl) (by rfl) hH ?_
        simp only [Act.put, List.setIfInBounds_toArray, List.set_cons_zero, List.set_cons_succ]
        refine hSkip (i := 13) rfl (by kernel_rfl) (by kernel_rfl) (by kernel_rfl) (by rfl) hH ?_
        simp only [Act.put, List.setIfInBounds_toArray, List.set_cons_zero, List.set_cons_succ]
        refine hSkip (i := 14) rfl (by kernel_rfl) (by kernel_rfl) (by kernel_rfl) (by rfl) hH ?_
        simp only [Act.put, List.setIfInBounds_toArray, List.set_cons_zero, List.set_cons_succ]
        refine hSkip (i := 15) rfl (by kernel_rfl) (by kernel_rfl) (by kernel_rfl) (by rfl) hH ?_
        simp only [Act.put, List.setIfInBounds_toArray, List.set_cons_zero, List.set_cons_succ]
        refine hSkip (i := 16) rfl (by kernel_rfl) (by kernel_rfl) (by kernel_rfl) (by rfl) hH ?_
        simp only [Act.put, List.setIfInBounds_toArray, List.set_cons_zero, List.set_cons_succ]
        refine hSkip (i := 17) rfl (by kernel_rfl) (by kernel_rfl) (by kernel_rfl) (by rfl) hH ?_
        simp only [Act.put, List.setIfInBounds_toArray, List.set_cons_zero, List.set_cons_succ]
        refine hSkip (i := 18) rfl (by kernel_rfl) (by kernel_rfl) (by kernel_rfl) (by rfl) hH ?_
        simp only [Act.put, List.setIfInBounds_toArray, List.set_cons_zero, List.set_cons_succ]
        refine hSkip (i := 19) rfl (by kernel_rfl) (by kernel_rfl) (by kernel_rfl) (by rfl) hH ?_
        simp only [Act.put, List.setIfInBounds_toArray, List.set_cons_zero, List.set_cons_succ]
        refine hSkip (i := 20) rfl (by kernel_rfl) (by kernel_rfl) (by kernel_rfl) (by rfl) hH ?_
        simp only [Act.put, List.setIfInBounds_toArray, List.set_cons_zero, List.set_cons_succ]
        refine hSkip (i := 21) rfl (by kernel_rfl) (by kernel_rfl) (by kernel_rfl) (by rfl) hH ?_
        simp only [Act.put, List.setIfInBounds_toArray, List.set_cons_zero, List.set_cons_succ]
        refine hTake (i := 22) (v := ?_) rfl (by kernel_rfl) (by kernel_rfl) (by kernel_rfl) (by rfl) ?_ hH ?_
        rotate_left
        · intro W hW; (try dsimp only at hW); go_simp <;> with_reducible rfl
        simp only [Act.put, List.setIfInBounds_toArray, List.set_cons_zero, List.set_cons_succ]
        refine wpAnyH_done (by kernel_rfl) ?_ _
        refine NoPanic.normal ?_
        have u2 := hH.2.1
        have z0 := hH.2.2.1
        have z1 := hH.2.2.2.1
        have lU0 := hH.2.2.2.2.1
        have kU0 := hH.2.2.2.2.2
        clear hH
        clear x1 x2 hB ll
        generalize wr.drew = U0 at *
        obtain ⟨oE, kE, lE⟩ := alloc_empty U0 131 2
        have e2 := keep_cell kE u2
        have kW1 := kU0.trans (kE.mono (by omega))
        have lW1 : w.heap.size < (U0.alloc (.cells #[] 131)).heap.size := by omega
        have oE := owns_base (base' := w.heap.size + 1) oE (by omega)
        have hC1 := ((cells_take (k := 0 * 2) h4 (by omega)).below kW1)
        have hs0 : 0 + 0 ≤ 4194304 := by omega
        have hb0 : w.heap.size + 1 ≤ (U0.alloc (.cells #[] 131)).heap.size := by omega
        go_wp2_with (at_builtin
                     go_must (refine wpList_appX Try.underlying127 Try.underlying127 gi0 gz0 gz1 gz2 rfl (by omega) (by omega) (.tmp 32) (.tmp 38) ?_ ?_ (w.heap.size + 1) (.slice (some ⟨U0.heap.size, 0, none⟩) 0 0) 0 [] none 0 0 ((hcells qs).take (0 * 2)) ?_ ?_ oE hC1 h1a hs0 hb0 ?_; exact rfl; exact rfl; exact rfl; exact rfl; intro a5 c5 w5 own5 gr5 at5)
                     simp only [Nat.zero_add, List.nil_append] at own5 ⊢)
        have k5 : Below w.heap.size w w5 := kW1.grown gr5 kW1.size (fun g hg => by have := (owns_lt oE g hg).1; omega)
        have l5 : w.heap.size < w5.heap.size := Nat.lt_of_lt_of_le lW1 gr5.size
        have hH : w5.cell? ⟨o, p * 3 + 2, none⟩ = some (.slice none 0 0) ∧ w5.cell? ⟨w.heap.size, 0, none⟩ = some (.int .i64 t) ∧ w5.cell? ⟨w.heap.size, 1, none⟩ = some (.int .i64 m) := ⟨grown_cell gr5 e2 (fun e => by have := (owns_lt oE _ e).1; omega), grown_cell gr5 (keep_cell kE z0) (fun e => by have := (owns_lt oE _ e).1; omega), grown_cell gr5 (keep_cell kE z1) (fun e => by have := (owns_lt oE _ e).1; omega)⟩
        clear gr5 at5 oE kE lE hC1 kW1 lW1 e2 u2 z0 z1
        refine wp_region_noPanic ?_
        refine wp_region_held_drew (S := fun W' => W'.cell? ⟨o, p * 3 + 2, none⟩ = some (.slice none 0 0) ∧ W'.cell? ⟨w.heap.size, 0, none⟩ = some (.int .i64 t) ∧ W'.cell? ⟨w.heap.size, 1, none⟩ = some (.int .i64 m)) (by kernel_rfl) (hH) (fun hH => ?_)
        have kX : Below w.heap.size w w5.drew := k5.drew
        have lX : w.heap.size < w5.drew.heap.size := l5
        have own5 := owns_below own5 ((Below.refl _ _).drew : Below w5.heap.size w5 w5.drew)
        generalize w5.drew = X at *
        refine hTake (i := 0) (v := ?_) rfl (by kernel_rfl) (by kernel_rfl) (by kernel_rfl) (by rfl) ?_ hH ?_
        rotate_left
        · intro W hW; (try dsimp only at hW); go_simp <;> with_reducible rfl
        simp only [Act.put, List.setIfInBounds_toArray, List.set_cons_zero, List.set_cons_succ]
        refine hTake (i := 1) (v := ?_) rfl (by kernel_rfl) (by kernel_rfl) (by kernel_rfl) (by rfl) ?_ hH ?_
        rotate_left
        · intro W hW; (try dsimp only at hW); go_simp <;> with_reducible rfl
        simp only [Act.put, List.setIfInBounds_toArray, List.set_cons_zero, List.set_cons_succ]
        refine hTake (i := 4) (v := ?_) rfl (by kernel_rfl) (by kernel_rfl) (by kernel_rfl) (by rfl) ?_ hH ?_
        rotate_left
        · intro W hW; (try dsimp only at hW); go_simp <;> with_reducible rfl
        simp only [Act.put, List.setIfInBounds_toArray, List.set_cons_zero, List.set_cons_succ]
        refine hTake (i := 5) (v := ?_) rfl (by kernel_rfl) (by kernel_rfl) (by kernel_rfl) (by rfl) ?_ hH ?_
        rotate_left
        · intro W hW; (try dsimp only at hW); go_simp <;> with_reducible rfl
        simp only [Act.put, List.setIfInBounds_toArray, List.set_cons_zero, List.set_cons_succ]
        refine hTake (i := 6) (v := ?_) rfl (by kernel_rfl) (by kernel_rfl) (by kernel_rfl) (by rfl) ?_ hH ?_
        rotate_left
        · intro W hW; (try dsimp only at hW); go_simp <;> with_reducible rfl
        simp only [Act.put, List.setIfInBounds_toArray, List.set_cons_zero, List.set_cons_succ]
        refine hTake (i := 7) (v := ?_) rfl (by kernel_rfl) (by kernel_rfl) (by kernel_rfl) (by rfl) ?_ hH ?_
        rotate_left
        · intro W hW; (try dsimp only at hW); go_simp <;> with_reducible rfl
        simp only [Act.put, List.setIfInBounds_toArray, List.set_cons_zero, List.set_cons_succ]
        refine hTake (i := 8) (v := ?_) rfl (by kernel_rfl) (by kernel_rfl) (by kernel_rfl) (by rfl) ?_ hH ?_
        rotate_left
        · intro W hW; (try dsimp only at hW); go_simp <;> with_reducible rfl
        simp only [Act.put, List.setIfInBounds_toArray, List.set_cons_zero, List.set_cons_succ]
        refine hTake (i := 9) (v := ?_) rfl (by kernel_rfl) (by kernel_rfl) (by kernel_rfl) (by rfl) ?_ hH ?_
        rotate_left
        · intro W hW; (try dsimp only at hW); go_simp <;> with_reducible rfl
        simp only [Act.put, List.setIfInBounds_toArray, List.set_cons_zero, List.set_cons_succ]
        have kN : Below X.heap.size X (X.alloc (.cells #[.int .i64 t, .int .i64 m] 131)) := (Below.refl _ _).alloc (Nat.le_refl _) _
        have hCN := new_hold X t m 131
        refine wpAnyH_ready (rs := [2]) (by kernel_rfl) (by simp) ?_
        refine AllReadyH.cons rfl (fun K hK => ?_) AllReadyH.nil
        go_simp
        refine hK.out _ _ ⟨keep_cell kN hH.1, keep_cell kN hH.2.1, keep_cell kN hH.2.2⟩ (fun hH => ?_)
        clear hK K
        have kX1 := kX.trans (kN.mono (by omega))
        have lX1 : w.heap.size < (X.alloc (.cells #[.int .i64 t, .int .i64 m] 131)).heap.size := Nat.lt_of_lt_of_le lX kN.size
        have own5 := owns_below own5 kN
        refine wpAnyH_ready (rs := [3]) (by kernel_rfl) (by simp) ?_
        refine AllReadyH.cons rfl (fun K hK => ?_) AllReadyH.nil
        refine step_appX Try.underlying127 Try.underlying127 gi0 gz0 gz1 gz2 rfl (by omega) (by omega) (.tmp 40) (.tmp 42) rfl rfl (w.heap.size + 1) (.slice a5 0 c5) 0 ((hcells qs).take (0 * 2)) _ 1 1 (hcells [⟨t, m⟩]) rfl rfl own5 hCN (hcells_one' _) (by omega) (by omega) ?_
        intro a7 c7 w7 own7 gr7 at7
        have k7 : Below w.heap.size w w7 := kX1.grown gr7 kX1.size (fun g hg => by have := (owns_lt own5 g hg).1; omega)
        have l7 : w.heap.size < w7.heap.size := Nat.lt_of_lt_of_le lX1 gr7.size
        refine hK.out _ _ ⟨grown_cell gr7 hH.1 (fun e => by have := (owns_lt own5 _ e).1; omega), grown_cell gr7 hH.2.1 (fun e => by have := (owns_lt own5 _ e).1; omega), grown_cell gr7 hH.2.2 (fun e => by have := (owns_lt own5 _ e).1; omega)⟩ (fun hH => ?_)
        clear hK K gr7 at7 own5 kX1 lX1 hCN kN
        simp only [Act.put, List.setIfInBounds_toArray, List.set_cons_zero, List.set_cons_succ]
        have hC2 := CellsAt.below (show CellsAt w none (0 * 2) ((hcells qs).drop (0 * 2)) from ⟨by rw [List.length_drop, h4.1], fun h => by omega⟩) k7
        refine wpAnyH_ready (rs := [10]) (by kernel_rfl) (by simp) ?_
        refine AllReadyH.cons rfl (fun K hK => ?_) AllReadyH.nil
        refine step_appX Try.underlying127 Try.underlying127 gi0 gz0 gz1 gz2 rfl (by omega) (by omega) (.tmp 43) (.tmp 49) rfl rfl (w.heap.size + 1) (.slice a7 (0 + 1) c7) (0 + 1) _ none 0 0 ((hcells qs).drop (0 * 2)) rfl rfl own7 hC2 h1b (by omega) (by omega) ?_
        intro a8 c8 w8 own8 gr8 at8
        have k8 : Below w.heap.size w w8 := k7.grown gr8 k7.size (fun g hg => by have := (owns_lt own7 g hg).1; omega)
        refine hK.out _ _ ⟨grown_cell gr8 hH.1 (fun e => by have := (owns_lt own7 _ e).1; omega), grown_cell gr8 hH.2.1 (fun e => by have := (owns_lt own7 _ e).1; omega), grown_cell gr8 hH.2.2 (fun e => by have := (owns_lt own7 _ e).1; omega)⟩ (fun hH => ?_)
        clear hK K gr8 at8 own7 k7 l7 hC2
        simp only [Act.put, List.setIfInBounds_toArray, List.set_cons_zero, List.set_cons_succ]
        refine hTake (i := 11) (v := ?_) rfl (by kernel_rfl) (by kernel_rfl) (by kernel_rfl) (by rfl) ?_ hH ?_
        rotate_left
        · intro W hW; (try dsimp only at hW); go_simp <;> with_reducible rfl
        simp only [Act.put, List.setIfInBounds_toArray, List.set_cons_zero, List.set_cons_succ]
        refine wpAnyH_done (by kernel_rfl) ?_ _
        refine NoPanic.normal ?_
        have en : 0 + 1 + 0 = 0 + 1 := by omega
        simp only [en] at own8 ⊢
        rw [← hcells_take, ← hcells_drop, ← hcells_append, ← hcells_append] at own8
        have O8 := hid (owns_base (base' := w.heap.size) own8 (by omega))
        clear own8
        go_wp2
        exact bodyPost_ret (v := .slice a8 (0 + 1) c8) (by simp [results, Try.results212, go_sem]) rfl ⟨_, _, rfl, by
          rw [HCV.out]
          first | exact O8.out | (have h9 := O8.out; simp only [List.append_assoc, List.cons_append, List.nil_append] at h9; exact h9), k8⟩
      · simp only [Value.slice.injEq, true_and] at hv
        obtain ⟨rfl, rfl⟩ := hv
        clear HOW
        by_cases hck : cq = k
        · obtain rfl : k = cq := hck.symm
          go_wp2_with fail
          refine wp_region_noPanic ?_
          refine wp_region_held_drew (S := fun W' => W'.cell? ⟨o, p * 3 + 1, none⟩ = some (.slice ah nh ch) ∧ W'.cell? ⟨o, p * 3 + 2, none⟩ = some (.slice (some ⟨g, 0, none⟩) k k) ∧ W'.cell? ⟨w.heap.size, 0, none⟩ = some (.int .i64 t) ∧ W'.cell? ⟨w.heap.size, 1, none⟩ = some (.int .i64 m) ∧ w.heap.size < W'.heap.size ∧ Below w.heap.size w W') (by kernel_rfl) (⟨x1, x2, z0, z1, ll, hB.drew⟩) (fun hH => ?_)
          refine hTake (i := 0) (v := ?_) rfl (by kernel_rfl) (by kernel_rfl) (by kernel_rfl) (by rfl) ?_ hH ?_
          rotate_left
          · intro W hW; (try dsimp only at hW); go_simp <;> with_reducible rfl
          simp only [Act.put, List.setIfInBounds_toArray, List.set_cons_zero, List.set_cons_succ]
          refine hTake (i := 1) (v := ?_) rfl (by kernel_rfl) (by kernel_rfl) (by kernel_rfl) (by rfl) ?_ hH ?_
          rotate_left
          · intro W hW; (try dsimp only at hW); go_simp <;> with_reducible rfl
          simp only [Act.put, List.setIfInBounds_toArray, List.set_cons_zero, List.set_cons_succ]
          refine hTake (i := 2) (v := ?_) rfl (by kernel_rfl) (by kernel_rfl) (by kernel_rfl) (by rfl) ?_ hH ?_
          rotate_left
          · intro W hW; (try dsimp only at hW); go_simp <;> with_reducible rfl
          simp only [Act.put, List.setIfInBounds_toArray, List.set_cons_zero, List.set_cons_succ]
          refine hTake (i := 3) (v := ?_) rfl (by kernel_rfl) (by kernel_rfl) (by kernel_rfl) (by rfl) ?_ hH ?_
          rotate_left
          · intro W hW; (try dsimp only at hW); go_simp <;> with_reducible rfl
          simp only [Act.put, List.setIfInBounds_toArray, List.set_cons_zero, List.set_cons_succ]
          refine hTake (i := 4) (v := ?_) rfl (by kernel_rfl) (by kernel_rfl) (by kernel_rfl) (by rfl) ?_ hH ?_
          rotate_left
          · intro W hW; (try dsimp only at hW); go_simp <;> with_reducible rfl
          simp only [Act.put, List.setIfInBounds_toArray, List.set_cons_zero, List.set_cons_succ]
          refine hTake (i := 5) (v := ?_) rfl (by kernel_rfl) (by kernel_rfl) (by kernel_rfl) (by rfl) ?_ hH ?_
          rotate_left
          · intro W hW; (try dsimp only at hW); go_simp <;> with_reducible rfl
          simp only [Act.put, List.setIfInBounds_toArray, List.set_cons_zero, List.set_cons_succ]
          refine hTake (i := 6) (v := ?_) rfl (by kernel_rfl) (by kernel_rfl) (by kernel_rfl) (by rfl) ?_ hH ?_
          rotate_left
          · intro W hW; (try dsimp only at hW); go_simp <;> with_reducible rfl
          simp only [Act.put, List.setIfInBounds_toArray, List.set_cons_zero, List.set_cons_succ]
          refine hTake (i := 7) (v := ?_) rfl (by kernel_rfl) (by kernel_rfl) (by kernel_rfl) (by rfl) ?_ hH ?_
          rotate_left
          · intro W hW; (try dsimp only at hW); go_simp <;> with_reducible rfl
          simp only [Act.put, List.setIfInBounds_toArray, List.set_cons_zero, List.set_cons_succ]
          refine hSkip (i := 8) rfl (by kernel_rfl) (by kernel_rfl) (by kernel_rfl) (by rfl) hH ?_
          simp only [Act.put, List.setIfInBounds_toArray, List.set_cons_zero, List.set_cons_succ]
          refine hSkip (i := 9) rfl (by kernel_rfl) (by kernel_rfl) (by kernel_rfl) (by rfl) hH ?_
          simp only [Act.put, List.setIfInBounds_toArray, List.set_cons_zero, List.set_cons_succ]
          refine hSkip (i := 10) rfl (by kernel_rfl) (by kernel_rfl) (by kernel_rfl) (by rfl) hH ?_
          simp only [Act.put, List.setIfInBounds_toArray, List.set_cons_zero, List.set_cons_succ]
          refine hSkip (i := 11) rfl (by kernel_rfl) (by kernel_rfl) (by kernel_rfl) (by rfl) hH ?_
          simp only [Act.put, List.setIfInBounds_toArray, List.set_cons_zero, List.set_cons_succ]
          refine hSkip (i := 12) rfl (by kernel_rfl) (by kernel_rfl) (by kernel_rfl) (by rfl) hH ?_
          simp only [Act.put, List.setIfInBounds_toArray, List.set_cons_zero, List.set_cons_succ]
          refine hSkip (i := 13) rfl (by kernel_rfl) (by kernel_rfl) (by kernel_rfl) (by rfl) hH ?_
          simp only [Act.put, List.setIfInBounds_toArray, List.set_cons_zero, List.set_cons_succ]
          refine hSkip (i := 14) rfl (by kernel_rfl) (by kernel_rfl) (by kernel_rfl) (by rfl) hH ?_
          simp only [Act.put, List.setIfInBounds_toArray, List.set_cons_zero, List.set_cons_succ]
          refine hSkip (i := 15) rfl (by kernel_rfl) (by kernel_rfl) (by kernel_rfl) (by rfl) hH ?_
          simp only [Act.put, List.setIfInBounds_toArray, List.set_cons_zero, List.set_cons_succ]
          refine hSkip (i := 16) rfl (by kernel_rfl) (by kernel_rfl) (by kernel_rfl) (by rfl) hH ?_
          simp only [Act.put, List.setIfInBounds_toArray, List.set_cons_zero, List.set_cons_succ]
          refine hSkip (i := 17) rfl (by kernel_rfl) (by kernel_rfl) (by kernel_rfl) (by rfl) hH ?_
          simp only [Act.put, List.setIfInBounds_toArray, List.set_cons_zero, List.set_cons_succ]
          refine hSkip (i := 18) rfl (by kernel_rfl) (by kernel_rfl) (by kernel_rfl) (by rfl) hH ?_
          simp only [Act.put, List.setIfInBounds_toArray, List.set_cons_zero, List.set_cons_succ]
          refine hSkip (i := 19) rfl (by kernel_rfl) (by kernel_rfl) (by kernel_rfl) (by rfl) hH ?_
          simp only [Act.put, List.setIfInBounds_toArray, List.set_cons_zero, List.set_cons_succ]
          refine hSkip (i := 20) rfl (by kernel_rfl) (by kernel_rfl) (by kernel_rfl) (by rfl) hH ?_
          simp only [Act.put, List.setIfInBounds_toArray, List.set_cons_zero, List.set_cons_succ]
          refine hSkip (i := 21) rfl (by kernel_rfl) (by kernel_rfl) (by kernel_rfl) (by rfl) hH ?_
          simp only [Act.put, List.setIfInBounds_toArray, List.set_cons_zero, List.set_cons_succ]
          refine hTake (i := 22) (v := ?_) rfl (by kernel_rfl) (by kernel_rfl) (by kernel_rfl) (by rfl) ?_ hH ?_
          rotate_left
          · intro W hW; (try dsimp only at hW); go_simp <;> with_reducible rfl
          simp only [Act.put, List.setIfInBounds_toArray, List.set_cons_zero, List.set_cons_succ]
          refine wpAnyH_done (by kernel_rfl) ?_ _
          refine NoPanic.normal ?_
          have u2 := hH.2.1
          have z0 := hH.2.2.1
          have z1 := hH.2.2.2.1
          have lU0 := hH.2.2.2.2.1
          have kU0 := hH.2.2.2.2.2
          clear hH
          clear x1 x2 hB ll
          generalize wr.drew = U0 at *
          obtain ⟨oE, kE, lE⟩ := alloc_empty U0 131 2
          have e2 := keep_cell kE u2
          have kW1 := kU0.trans (kE.mono (by omega))
          have lW1 : w.heap.size < (U0.alloc (.cells #[] 131)).heap.size := by omega
          have oE := owns_base (base' := w.heap.size + 1) oE (by omega)
          have hC1 := ((cells_take (k := k * 2) h4 (by omega)).below kW1)
          have hs0 : 0 + k ≤ 4194304 := by omega
          have hb0 : w.heap.size + 1 ≤ (U0.alloc (.cells #[] 131)).heap.size := by omega
          go_wp2_with (at_builtin
                       go_must (refine wpList_appX Try.underlying127 Try.underlying127 gi0 gz0 gz1 gz2 rfl (by omega) (by omega) (.tmp 32) (.tmp 38) ?_ ?_ (w.heap.size + 1) (.slice (some ⟨U0.heap.size, 0, none⟩) 0 0) 0 [] (some ⟨g, 0, none⟩) k k ((hcells qs).take (k * 2)) ?_ ?_ oE hC1 h1a hs0 hb0 ?_; exact rfl; exact rfl; exact rfl; exact rfl; intro a5 c5 w5 own5 gr5 at5)
                       simp only [Nat.zero_add, List.nil_append] at own5 ⊢)
          have k5 : Below w.heap.size w w5 := kW1.grown gr5 kW1.size (fun g hg => by have := (owns_lt oE g hg).1; omega)
          have l5 : w.heap.size < w5.heap.size := Nat.lt_of_lt_of_le lW1 gr5.size
          have hH : w5.cell? ⟨o, p * 3 + 2, none⟩ = some (.slice (some ⟨g, 0, none⟩) k k) ∧ w5.cell? ⟨w.heap.size, 0, none⟩ = some (.int .i64 t) ∧ w5.cell? ⟨w.heap.size, 1, none⟩ = some (.int .i64 m) := ⟨grown_cell gr5 e2 (fun e => by have := (owns_lt oE _ e).1; omega), grown_cell gr5 (keep_cell kE z0) (fun e => by have := (owns_lt oE _ e).1; omega), grown_cell gr5 (keep_cell kE z1) (fun e => by have := (owns_lt oE _ e).1; omega)⟩
          clear gr5 at5 oE kE lE hC1 kW1 lW1 e2 u2 z0 z1
          refine wp_region_noPanic ?_
          refine wp_region_held_drew (S := fun W' => W'.cell? ⟨o, p * 3 + 2, none⟩ = some (.slice (some ⟨g, 0, none⟩) k k) ∧ W'.cell? ⟨w.heap.size, 0, none⟩ = some (.int .i64 t) ∧ W'.cell? ⟨w.heap.size, 1, none⟩ = some (.int .i64 m)) (by kernel_rfl) (hH) (fun hH => ?_)
          have kX : Below w.heap.size w w5.drew := k5.drew
          have lX : w.heap.size < w5.drew.heap.size := l5
          have own5 := owns_below own5 ((Below.refl _ _).drew : Below w5.heap.size w5 w5.drew)
          generalize w5.drew = X at *
          refine hTake (i := 0) (v := ?_) rfl (by kernel_rfl) (by kernel_rfl) (by kernel_rfl) (by rfl) ?_ hH ?_
          rotate_left
          · intro W hW; (try dsimp only at hW); go_simp <;> with_reducible rfl
          simp only [Act.put, List.setIfInBounds_toArray, List.set_cons_zero, List.set_cons_succ]
          refine hTake (i := 1) (v := ?_) rfl (by kernel_rfl) (by kernel_rfl) (by kernel_rfl) (by rfl) ?_ hH ?_
          rotate_left
          · intro W hW; (try dsimp only at hW); go_simp <;> with_reducible rfl
          simp only [Act.put, List.setIfInBounds_toArray, List.set_cons_zero, List.set_cons_succ]
          refine hTake (i := 4) (v := ?_) rfl (by kernel_rfl) (by kernel_rfl) (by kernel_rfl) (by rfl) ?_ hH ?_
          rotate_left
          · intro W hW; (try dsimp only at hW); go_simp <;> with_reducible rfl
          simp only [Act.put, List.setIfInBounds_toArray, List.set_cons_zero, List.set_cons_succ]
          refine hTake (i := 5) (v := ?_) rfl (by kernel_rfl) (by kernel_rfl) (by kernel_rfl) (by rfl) ?_ hH ?_
          rotate_left
          · intro W hW; (try dsimp only at hW); go_simp <;> with_reducible rfl
          simp only [Act.put, List.setIfInBounds_toArray, List.set_cons_zero, List.set_cons_succ]
          refine hTake (i := 6) (v := ?_) rfl (by kernel_rfl) (by kernel_rfl) (by kernel_rfl) (by rfl) ?_ hH ?_
          rotate_left
          · intro W hW; (try dsimp only at hW); go_simp <;> with_reducible rfl
          simp only [Act.put, List.setIfInBounds_toArray, List.set_cons_zero, List.set_cons_succ]
          refine hTake (i := 7) (v := ?_) rfl (by kernel_rfl) (by kernel_rfl) (by kernel_rfl) (by rfl) ?_ hH ?_
          rotate_left
          · intro W hW; (try dsimp only at hW); go_simp <;> with_reducible rfl
          simp only [Act.put, List.setIfInBounds_toArray, List.set_cons_zero, List.set_cons_succ]
          refine hTake (i := 8) (v := ?_) rfl (by kernel_rfl) (by kernel_rfl) (by kernel_rfl) (by rfl) ?_ hH ?_
          rotate_left
          · intro W hW; (try dsimp only at hW); go_simp <;> with_reducible rfl
          simp only [Act.put, List.setIfInBounds_toArray, List.set_cons_zero, List.set_cons_succ]
          refine hTake (i := 9) (v := ?_) rfl (by kernel_rfl) (by kernel_rfl) (by kernel_rfl) (by rfl) ?_ hH ?_
          rotate_left
          · intro W hW; (try dsimp only at hW); go_simp <;> with_reducible rfl
          simp only [Act.put, List.setIfInBounds_toArray, List.set_cons_zero, List.set_cons_succ]
          have kN : Below X.heap.size X (X.alloc (.cells #[.int .i64 t, .int .i64 m] 131)) := (Below.refl _ _).alloc (Nat.le_refl _) _
          have hCN := new_hold X t m 131
          refine wpAnyH_ready (rs := [2]) (by kernel_rfl) (by simp) ?_
          refine AllReadyH.cons rfl (fun K hK => ?_) AllReadyH.nil
          go_simp
          refine hK.out _ _ ⟨keep_cell kN hH.1, keep_cell kN hH.2.1, keep_cell kN hH.2.2⟩ (fun hH => ?_)
          clear hK K
          have kX1 := kX.trans (kN.mono (by omega))
          have lX1 : w.heap.size < (X.alloc (.cells #[.int .i64 t, .int .i64 m] 131)).heap.size := Nat.lt_of_lt_of_le lX kN.size
          have own5 := owns_below own5 kN
          refine wpAnyH_ready (rs := [3]) (by kernel_rfl) (by simp) ?_
          refine AllReadyH.cons rfl (fun K hK => ?_) AllReadyH.nil
          refine step_appX Try.underlying127 Try.underlying127 gi0 gz0 gz1 gz2 rfl (by omega) (by omega) (.tmp 40) (.tmp 42) rfl rfl (w.heap.size + 1) (.slice a5 k c5) k ((hcells qs).take (k * 2)) _ 1 1 (hcells [⟨t, m⟩]) rfl rfl own5 hCN (hcells_one' _) (by omega) (by omega) ?_
          intro a7 c7 w7 own7 gr7 at7
          have k7 : Below w.heap.size w w7 := kX1.grown gr7 kX1.size (fun g hg => by have := (owns_lt own5 g hg).1; omega)
          have l7 : w.heap.size < w7.heap.size := Nat.lt_of_lt_of_le lX1 gr7.size
          refine hK.out _ _ ⟨grown_cell gr7 hH.1 (fun e => by have := (owns_lt own5 _ e).1; omega), grown_cell gr7 hH.2.1 (fun e => by have := (owns_lt own5 _ e).1; omega), grown_cell gr7 hH.2.2 (fun e => by have := (owns_lt own5 _ e).1; omega)⟩ (fun hH => ?_)
          clear hK K gr7 at7 own5 kX1 lX1 hCN kN
          simp only [Act.put, List.setIfInBounds_toArray, List.set_cons_zero, List.set_cons_succ]
          have hC2 := CellsAt.below (show CellsAt w (some ⟨g, 0, none⟩) (0 * 2) ((hcells qs).drop (k * 2)) from ⟨by rw [List.length_drop, h4.1]; omega, fun h => by omega⟩) k7
          refine wpAnyH_ready (rs := [10]) (by kernel_rfl) (by simp) ?_
          refine AllReadyH.cons rfl (fun K hK => ?_) AllReadyH.nil
          refine step_appX Try.underlying127 Try.underlying127 gi0 gz0 gz1 gz2 rfl (by omega) (by omega) (.tmp 43) (.tmp 49) rfl rfl (w.heap.size + 1) (.slice a7 (k + 1) c7) (k + 1) _ (some ⟨g, 0, none⟩) 0 0 ((hcells qs).drop (k * 2)) rfl rfl own7 hC2 h1b (by omega) (by omega) ?_
          intro a8 c8 w8 own8 gr8 at8
          have k8 : Below w.heap.size w w8 := k7.grown gr8 k7.size (fun g hg => by have := (owns_lt own7 g hg).1; omega)
          refine hK.out _ _ ⟨grown_cell gr8 hH.1 (fun e => by have := (owns_lt own7 _ e).1; omega), grown_cell gr8 hH.2.1 (fun e => by have := (owns_lt own7 _ e).1; omega), grown_cell gr8 hH.2.2 (fun e => by have := (owns_lt own7 _ e).1; omega)⟩ (fun hH => ?_)
          clear hK K gr8 at8 own7 k7 l7 hC2
          simp only [Act.put, List.setIfInBounds_toArray, List.set_cons_zero, List.set_cons_succ]
          refine hTake (i := 11) (v := ?_) rfl (by kernel_rfl) (by kernel_rfl) (by kernel_rfl) (by rfl) ?_ hH ?_
          rotate_left
          · intro W hW; (try dsimp only at hW); go_simp <;> with_reducible rfl
          simp only [Act.put, List.setIfInBounds_toArray, List.set_cons_zero, List.set_cons_succ]
          refine wpAnyH_done (by kernel_rfl) ?_ _
          refine NoPanic.normal ?_
          have en : k + 1 + 0 = k + 1 := by omega
          simp only [en] at own8 ⊢
          rw [← hcells_take, ← hcells_drop, ← hcells_append, ← hcells_append] at own8
          have O8 := hid (owns_base (base' := w.heap.size) own8 (by omega))
          clear own8
          go_wp2
          exact bodyPost_ret (v := .slice a8 (k + 1) c8) (by simp [results, Try.results212, go_sem]) rfl ⟨_, _, rfl, by
            rw [HCV.out]
            first | exact O8.out | (have h9 := O8.out; simp only [List.append_assoc, List.cons_append, List.nil_append] at h9; exact h9), k8⟩
        · go_wp2_with fail
          refine wp_region_noPanic ?_
          refine wp_region_held_drew (S := fun W' => W'.cell? ⟨o, p * 3 + 1, none⟩ = some (.slice ah nh ch) ∧ W'.cell? ⟨o, p * 3 + 2, none⟩ = some (.slice (some ⟨g, 0, none⟩) k cq) ∧ W'.cell? ⟨w.heap.size, 0, none⟩ = some (.int .i64 t) ∧ W'.cell? ⟨w.heap.size, 1, none⟩ = some (.int .i64 m) ∧ w.heap.size < W'.heap.size ∧ Below w.heap.size w W') (by kernel_rfl) (⟨x1, x2, z0, z1, ll, hB.drew⟩) (fun hH => ?_)
          refine hTake (i := 0) (v := ?_) rfl (by kernel_rfl) (by kernel_rfl) (by kernel_rfl) (by rfl) ?_ hH ?_
          rotate_left
          · intro W hW; (try dsimp only at hW); go_simp <;> with_reducible rfl
          simp only [Act.put, List.setIfInBounds_toArray, List.set_cons_zero, List.set_cons_succ]
          refine hTake (i := 1) (v := ?_) rfl (by kernel_rfl) (by kernel_rfl) (by kernel_rfl) (by rfl) ?_ hH ?_
          rotate_left
          · intro W hW; (try dsimp only at hW); go_simp <;> with_reducible rfl
          simp only [Act.put, List.setIfInBounds_toArray, List.set_cons_zero, List.set_cons_succ]
          refine hTake (i := 2) (v := ?_) rfl (by kernel_rfl) (by kernel_rfl) (by kernel_rfl) (by rfl) ?_ hH ?_
          rotate_left
          · intro W hW; (try dsimp only at hW); go_simp <;> with_reducible rfl
          simp only [Act.put, List.setIfInBounds_toArray, List.set_cons_zero, List.set_cons_succ]
          refine hTake (i := 3) (v := ?_) rfl (by kernel_rfl) (by kernel_rfl) (by kernel_rfl) (by rfl) ?_ hH ?_
          rotate_left
          · intro W hW; (try dsimp only at hW); go_simp <;> with_reducible rfl
          simp only [Act.put, List.setIfInBounds_toArray, List.set_cons_zero, List.set_cons_succ]
          refine hTake (i := 4) (v := ?_) rfl (by kernel_rfl) (by kernel_rfl) (by kernel_rfl) (by rfl) ?_ hH ?_
          rotate_left
          · intro W hW; (try dsimp only at hW); go_simp <;> with_reducible rfl
          simp only [Act.put, List.setIfInBounds_toArray, List.set_cons_zero, List.set_cons_succ]
          refine hTake (i := 5) (v := ?_) rfl (by kernel_rfl) (by kernel_rfl) (by kernel_rfl) (by rfl) ?_ hH ?_
          rotate_left
          · intro W hW; (try dsimp only at hW); go_simp <;> with_reducible rfl
          simp only [Act.put, List.setIfInBounds_toArray, List.set_cons_zero, List.set_cons_succ]
          refine hTake (i := 6) (v := ?_) rfl (by kernel_rfl) (by kernel_rfl) (by kernel_rfl) (by rfl) ?_ hH ?_
          rotate_left
          · intro W hW; (try dsimp only at hW); go_simp <;> with_reducible rfl
          simp only [Act.put, List.setIfInBounds_toArray, List.set_cons_zero, List.set_cons_succ]
          refine hTake (i := 7) (v := ?_) rfl (by kernel_rfl) (by kernel_rfl) (by kernel_rfl) (by rfl) ?_ hH ?_
          rotate_left
          · intro W hW; (try dsimp only at hW); go_simp <;> with_reducible rfl
          simp only [Act.put, List.setIfInBounds_toArray, List.set_cons_zero, List.set_cons_succ]
          refine hSkip (i := 8) rfl (by kernel_rfl) (by kernel_rfl) (by kernel_rfl) (by rfl) hH ?_
          simp only [Act.put, List.setIfInBounds_toArray, List.set_cons_zero, List.set_cons_succ]
          refine hSkip (i := 9) rfl (by kernel_rfl) (by kernel_rfl) (by kernel_rfl) (by rfl) hH ?_
          simp only [Act.put, List.setIfInBounds_toArray, List.set_cons_zero, List.set_cons_succ]
          refine hSkip (i := 10) rfl (by kernel_rfl) (by kernel_rfl) (by kernel_rfl) (by rfl) hH ?_
          simp only [Act.put, List.setIfInBounds_toArray, List.set_cons_zero, List.set_cons_succ]
          refine hSkip (i := 11) rfl (by kernel_rfl) (by kernel_rfl) (by kernel_rfl) (by rfl) hH ?_
          simp only [Act.put, List.setIfInBounds_toArray, List.set_cons_zero, List.set_cons_succ]
          refine hSkip (i := 12) rfl (by kernel_rfl) (by kernel_rfl) (by kernel_rfl) (by rfl) hH ?_
          simp only [Act.put, List.setIfInBounds_toArray, List.set_cons_zero, List.set_cons_succ]
          refine hSkip (i := 13) rfl (by kernel_rfl) (by kernel_rfl) (by kernel_rfl) (by rfl) hH ?_
          simp only [Act.put, List.setIfInBounds_toArray, List.set_cons_zero, List.set_cons_succ]
          refine hSkip (i := 14) rfl (by kernel_rfl) (by kernel_rfl) (by kernel_rfl) (by rfl) hH ?_
          simp only [Act.put, List.setIfInBounds_toArray, List.set_cons_zero, List.set_cons_succ]
          refine hSkip (i := 15) rfl (by kernel_rfl) (by kernel_rfl) (by kernel_rfl) (by rfl) hH ?_
          simp only [Act.put, List.setIfInBounds_toArray, List.set_cons_zero, List.set_cons_succ]
          refine hSkip (i := 16) rfl (by kernel_rfl) (by kernel_rfl) (by kernel_rfl) (by rfl) hH ?_
          simp only [Act.put, List.setIfInBounds_toArray, List.set_cons_zero, List.set_cons_succ]
          refine hSkip (i := 17) rfl (by kernel_rfl) (by kernel_rfl) (by kernel_rfl) (by rfl) hH ?_
          simp only [Act.put, List.setIfInBounds_toArray, List.set_cons_zero, List.set_cons_succ]
          refine hSkip (i := 18) rfl (by kernel_rfl) (by kernel_rfl) (by kernel_rfl) (by rfl) hH ?_
          simp only [Act.put, List.setIfInBounds_toArray, List.set_cons_zero, List.set_cons_succ]
          refine hSkip (i := 19) rfl (by kernel_rfl) (by kernel_rfl) (by kernel_rfl) (by rfl) hH ?_
          simp only [Act.put, List.setIfInBounds_toArray, List.set_cons_zero, List.set_cons_succ]
          refine hSkip (i := 20) rfl (by kernel_rfl) (by kernel_rfl) (by kernel_rfl) (by rfl) hH ?_
          simp only [Act.put, List.setIfInBounds_toArray, List.set_cons_zero, List.set_cons_succ]
          refine hSkip (i := 21) rfl (by kernel_rfl) (by kernel_rfl) (by kernel_rfl) (by rfl) hH ?_
          simp only [Act.put, List.setIfInBounds_toArray, List.set_cons_zero, List.set_cons_succ]
          refine hTake (i := 22) (v := ?_) rfl (by kernel_rfl) (by kernel_rfl) (by kernel_rfl) (by rfl) ?_ hH ?_
          rotate_left
          · intro W hW; (try dsimp only at hW); go_simp <;> with_reducible rfl
          simp only [Act.put, List.setIfInBounds_toArray, List.set_cons_zero, List.set_cons_succ]
          refine wpAnyH_done (by kernel_rfl) ?_ _
          refine NoPanic.normal ?_
          have u2 := hH.2.1
          have z0 := hH.2.2.1
          have z1 := hH.2.2.2.1
          have lU0 := hH.2.2.2.2.1
          have kU0 := hH.2.2.2.2.2
          clear hH
          clear x1 x2 hB ll
          generalize wr.drew = U0 at *
          obtain ⟨oE, kE, lE⟩ := alloc_empty U0 131 2
          have e2 := keep_cell kE u2
          have kW1 := kU0.trans (kE.mono (by omega))
          have lW1 : w.heap.size < (U0.alloc (.cells #[] 131)).heap.size := by omega
          have oE := owns_base (base' := w.heap.size + 1) oE (by omega)
          have hC1 := ((cells_take (k := k * 2) h4 (by omega)).below kW1)
          have hs0 : 0 + k ≤ 4194304 := by omega
          have hb0 : w.heap.size + 1 ≤ (U0.alloc (.cells #[] 131)).heap.size := by omega
          go_wp2_with (at_builtin
                       go_must (refine wpList_appX Try.underlying127 Try.underlying127 gi0 gz0 gz1 gz2 rfl (by omega) (by omega) (.tmp 32) (.tmp 38) ?_ ?_ (w.heap.size + 1) (.slice (some ⟨U0.heap.size, 0, none⟩) 0 0) 0 [] (some ⟨g, 0, none⟩) k cq ((hcells qs).take (k * 2)) ?_ ?_ oE hC1 h1a hs0 hb0 ?_; exact rfl; exact rfl; exact rfl; exact rfl; intro a5 c5 w5 own5 gr5 at5)
                       simp only [Nat.zero_add, List.nil_append] at own5 ⊢)
          have k5 : Below w.heap.size w w5 := kW1.grown gr5 kW1.size (fun g hg => by have := (owns_lt oE g hg).1; omega)
          have l5 : w.heap.size < w5.heap.size := Nat.lt_of_lt_of_le lW1 gr5.size
          have hH : w5.cell? ⟨o, p * 3 + 2, none⟩ = some (.slice (some ⟨g, 0, none⟩) k cq) ∧ w5.cell? ⟨w.heap.size, 0, none⟩ = some (.int .i64 t) ∧ w5.cell? ⟨w.heap.size, 1, none⟩ = some (.int .i64 m) := ⟨grown_cell gr5 e2 (fun e => by have := (owns_lt oE _ e).1; omega), grown_cell gr5 (keep_cell kE z0) (fun e => by have := (owns_lt oE _ e).1; omega), grown_cell gr5 (keep_cell kE z1) (fun e => by have := (owns_lt oE _ e).1; omega)⟩
          clear gr5 at5 oE kE lE hC1 kW1 lW1 e2 u2 z0 z1
          refine wp_region_noPanic ?_
          refine wp_region_held_drew (S := fun W' => W'.cell? ⟨o, p * 3 + 2, none⟩ = some (.slice (some ⟨g, 0, none⟩) k cq) ∧ W'.cell? ⟨w.heap.size, 0, none⟩ = some (.int .i64 t) ∧ W'.cell? ⟨w.heap.size, 1, none⟩ = some (.int .i64 m)) (by kernel_rfl) (hH) (fun hH => ?_)
          have kX : Below w.heap.size w w5.drew := k5.drew
          have lX : w.heap.size < w5.drew.heap.size := l5
          have own5 := owns_below own5 ((Below.refl _ _).drew : Below w5.heap.size w5 w5.drew)
          generalize w5.drew = X at *
          refine hTake (i := 0) (v := ?_) rfl (by kernel_rfl) (by kernel_rfl) (by kernel_rfl) (by rfl) ?_ hH ?_
          rotate_left
          · intro W hW; (try dsimp only at hW); go_simp <;> with_reducible rfl
          simp only [Act.put, List.setIfInBounds_toArray, List.set_cons_zero, List.set_cons_succ]
          refine hTake (i := 1) (v := ?_) rfl (by kernel_rfl) (by kernel_rfl) (by kernel_rfl) (by rfl) ?_ hH ?_
          rotate_left
          · intro W hW; (try dsimp only at hW); go_simp <;> with_reducible rfl
          simp only [Act.put, List.setIfInBounds_toArray, List.set_cons_zero, List.set_cons_succ]
          refine hTake (i := 4) (v := ?_) rfl (by kernel_rfl) (by kernel_rfl) (by kernel_rfl) (by rfl) ?_ hH ?_
          rotate_left
          · intro W hW; (try dsimp only at hW); go_simp <;> with_reducible rfl
          simp only [Act.put, List.setIfInBounds_toArray, List.set_cons_zero, List.set_cons_succ]
          refine hTake (i := 5) (v := ?_) rfl (by kernel_rfl) (by kernel_rfl) (by kernel_rfl) (by rfl) ?_ hH ?_
          rotate_left
          · intro W hW; (try dsimp only at hW); go_simp <;> with_reducible rfl
          simp only [Act.put, List.setIfInBounds_toArray, List.set_cons_zero, List.set_cons_succ]
          refine hTake (i := 6) (v := ?_) rfl (by kernel_rfl) (by kernel_rfl) (by kernel_rfl) (by rfl) ?_ hH ?_
          rotate_left
          · intro W hW; (try dsimp only at hW); go_simp <;> with_reducible rfl
          simp only [Act.put, List.setIfInBounds_toArray, List.set_cons_zero, List.set_cons_succ]
          refine hTake (i := 7) (v := ?_) rfl (by kernel_rfl) (by kernel_rfl) (by kernel_rfl) (by rfl) ?_ hH ?_
          rotate_left
          · intro W hW; (try dsimp only at hW); go_simp <;> with_reducible rfl
          simp only [Act.put, List.setIfInBounds_toArray, List.set_cons_zero, List.set_cons_succ]
          refine hTake (i := 8) (v := ?_) rfl (by kernel_rfl) (by kernel_rfl) (by kernel_rfl) (by rfl) ?_ hH ?_
          rotate_left
          · intro W hW; (try dsimp only at hW); go_simp <;> with_reducible rfl
          simp only [Act.put, List.setIfInBounds_toArray, List.set_cons_zero, List.set_cons_succ]
          refine hTake (i := 9) (v := ?_) rfl (by kernel_rfl) (by kernel_rfl) (by kernel_rfl) (by rfl) ?_ hH ?_
          rotate_left
          · intro W hW; (try dsimp only at hW); go_simp <;> with_reducible rfl
          simp only [Act.put, List.setIfInBounds_toArray, List.set_cons_zero, List.set_cons_succ]
          have kN : Below X.heap.size X (X.alloc (.cells #[.int .i64 t, .int .i64 m] 131)) := (Below.refl _ _).alloc (Nat.le_refl _) _
          have hCN := new_hold X t m 131
          refine wpAnyH_ready (rs := [2]) (by kernel_rfl) (by simp) ?_
          refine AllReadyH.cons rfl (fun K hK => ?_) AllReadyH.nil
          go_simp
          refine hK.out _ _ ⟨keep_cell kN hH.1, keep_cell kN hH.2.1, keep_cell kN hH.2.2⟩ (fun hH => ?_)
          clear hK K
          have kX1 := kX.trans (kN.mono (by omega))
          have lX1 : w.heap.size < (X.alloc (.cells #[.int .i64 t, .int .i64 m] 131)).heap.size := Nat.lt_of_lt_of_le lX kN.size
          have own5 := owns_below own5 kN
          refine wpAnyH_ready (rs := [3]) (by kernel_rfl) (by simp) ?_
          refine AllReadyH.cons rfl (fun K hK => ?_) AllReadyH.nil
          refine step_appX Try.underlying127 Try.underlying127 gi0 gz0 gz1 gz2 rfl (by omega) (by omega) (.tmp 40) (.tmp 42) rfl rfl (w.heap.size + 1) (.slice a5 k c5) k ((hcells qs).take (k * 2)) _ 1 1 (hcells [⟨t, m⟩]) rfl rfl own5 hCN (hcells_one' _) (by omega) (by omega) ?_
          intro a7 c7 w7 own7 gr7 at7
          have k7 : Below w.heap.size w w7 := kX1.grown gr7 kX1.size (fun g hg => by have := (owns_lt own5 g hg).1; omega)
          have l7 : w.heap.size < w7.heap.size := Nat.lt_of_lt_of_le lX1 gr7.size
          refine hK.out _ _ ⟨grown_cell gr7 hH.1 (fun e => by have := (owns_lt own5 _ e).1; omega), grown_cell gr7 hH.2.1 (fun e => by have := (owns_lt own5 _ e).1; omega), grown_cell gr7 hH.2.2 (fun e => by have := (owns_lt own5 _ e).1; omega)⟩ (fun hH => ?_)
          clear hK K gr7 at7 own5 kX1 lX1 hCN kN
          simp only [Act.put, List.setIfInBounds_toArray, List.set_cons_zero, List.set_cons_succ]
          have hC2 := CellsAt.below (by have := cells_drop h4 (k := k * 2) (by omega); rw [Nat.zero_add, Nat.sub_self] at this; exact this) k7
          refine wpAnyH_ready (rs := [10]) (by kernel_rfl) (by simp) ?_
          refine AllReadyH.cons rfl (fun K hK => ?_) AllReadyH.nil
          refine step_appX Try.underlying127 Try.underlying127 gi0 gz0 gz1 gz2 rfl (by omega) (by omega) (.tmp 43) (.tmp 49) rfl rfl (w.heap.size + 1) (.slice a7 (k + 1) c7) (k + 1) _ (some ⟨g, k * 2, none⟩) 0 (cq - k) ((hcells qs).drop (k * 2)) rfl rfl own7 hC2 h1b (by omega) (by omega) ?_
          intro a8 c8 w8 own8 gr8 at8
          have k8 : Below w.heap.size w w8 := k7.grown gr8 k7.size (fun g hg => by have := (owns_lt own7 g hg).1; omega)
          refine hK.out _ _ ⟨grown_cell gr8 hH.1 (fun e => by have := (owns_lt own7 _ e).1; omega), grown_cell gr8 hH.2.1 (fun e => by have := (owns_lt own7 _ e).1; omega), grown_cell gr8 hH.2.2 (fun e => by have := (owns_lt own7 _ e).1; omega)⟩ (fun hH => ?_)
          clear hK K gr8 at8 own7 k7 l7 hC2
          simp only [Act.put, List.setIfInBounds_toArray, List.set_cons_zero, List.set_cons_succ]
          refine hTake (i := 11) (v := ?_) rfl (by kernel_rfl) (by kernel_rfl) (by kernel_rfl) (by rfl) ?_ hH ?_
          rotate_left
          · intro W hW; (try dsimp only at hW); go_simp <;> with_reducible rfl
          simp only [Act.put, List.setIfInBounds_toArray, List.set_cons_zero, List.set_cons_succ]
          refine wpAnyH_done (by kernel_rfl) ?_ _
          refine NoPanic.normal ?_
          have en : k + 1 + 0 = k + 1 := by omega
          simp only [en] at own8 ⊢
          rw [← hcells_take, ← hcells_drop, ← hcells_append, ← hcells_append] at own8
          have O8 := hid (owns_base (base' := w.heap.size) own8 (by omega))
          clear own8
          go_wp2
          exact bodyPost_ret (v := .slice a8 (k + 1) c8) (by simp [results, Try.results212, go_sem]) rfl ⟨_, _, rfl, by
            rw [HCV.out]
            first | exact O8.out | (have h9 := O8.out; simp only [List.append_assoc, List.cons_append, List.nil_append] at h9; exact h9), k8⟩

end Go.Proofs.Ytjagobcogkdfhaa


/- JoinModes of the model, and the law FnExactJoinModes. -/
namespace Go.Proofs.Ytjagobcogkdfhaa
open Go.RowKit

theorem Ch.join_first {a b : Int} {k : Nat} (ha : Ch.isM a = true) (hb : Ch.isM b = true) (hk : k < 6) (hj : (k : Int) ≤ Ch.join a b) : Ch.both a b k = decide ((k : Int) = Ch.join a b) := by
  have : k = 0 ∨ k = 1 ∨ k = 2 ∨ k = 3 ∨ k = 4 ∨ k = 5 := by omega
  rcases Ch.mode_cases ha with rfl | rfl | rfl | rfl | rfl | rfl
  all_goals rcases Ch.mode_cases hb with rfl | rfl | rfl | rfl | rfl | rfl
  all_goals rcases this with rfl | rfl | rfl | rfl | rfl | rfl
  all_goals first | rfl | (exfalso; revert hj; decide)

set_option maxHeartbeats 2000000 in
theorem l5Join_any (a b : Int) (w : World) (ha : Ch.isM a = true) (hb : Ch.isM b = true) :
    Calls Try.prog 211 #[.int .i64 a, .int .i64 b] w fun e w' => e = .returned (.int .i64 (Ch.join a b)) ∧ w' = w := by
  have HF : Hid (∀ k : Nat, k < 6 → (k : Int) ≤ Ch.join a b → (Ch.tab Ch.covT k a && Ch.tab Ch.covT k b) = decide ((k : Int) = Ch.join a b)) := fun k hk hj => Ch.join_first ha hb hk hj
  obtain ⟨j0, j1⟩ := Ch.mode_bd (Ch.join_isM ha hb)
  generalize Ch.join a b = jj at *
  obtain ⟨j, rfl⟩ := Int.eq_ofNat_of_zero_le j0
  go_enter Try.func211, Try.ntmps211
  go_wp2_with fail
  go_loop [5] (fun i => ∃ k : Nat, k ≤ j ∧ i = .int .i64 k) (fun i => 6 - (intOf i).toNat)
  case atStart => exact ⟨0, Nat.zero_le _, rfl⟩
  case round =>
    obtain ⟨k, hk, rfl⟩ := hrel
    by_cases hlt : k < 5
    · have hki : (k : Int) < 5 := by omega
      have HA := fun W => l5Cov_any k a W (isM_nat (by omega)) ha
      have HB := fun W => l5Cov_any k b W (isM_nat (by omega)) hb
      have hV := HF.out k (by omega) (by omega)
      clear HF ha hb
      generalize Ch.tab Ch.covT k a = p at *
      generalize Ch.tab Ch.covT k b = q at *
      cases p
      · have hkj : k ≠ j := by intro h; subst h; simp at hV
        clear hV
        go_wp2_with (go_at_call 210; first | refine (HA _).mono ?_ | refine (HB _).mono ?_
                     rintro e w' ⟨rfl, rfl⟩)
        go_round
        case rel => exact ⟨k + 1, by omega, by go_num⟩
        case measure => simp [intOf]; omega
      · cases q
        · have hkj : k ≠ j := by intro h; subst h; simp at hV
          clear hV
          go_wp2_with fail
          refine (HA _).mono ?_
          rintro e w' ⟨rfl, rfl⟩
          go_wp2_with fail
          refine (HB _).mono ?_
          rintro e w' ⟨rfl, rfl⟩
          go_wp2_with fail
          go_round
          case rel => exact ⟨k + 1, by omega, by go_num⟩
          case measure => simp [intOf]; omega
        · obtain rfl : k = j := by have : (k : Int) = j := by simpa using hV
                                   omega
          clear hV
          go_wp2_with fail
          refine (HA _).mono ?_
          rintro e w' ⟨rfl, rfl⟩
          go_wp2_with fail
          refine (HB _).mono ?_
          rintro e w' ⟨rfl, rfl⟩
          go_wp2_with fail
          go_ret
          exact ⟨rfl, rfl⟩
    · obtain rfl : k = j := by omega
      obtain rfl : k = 5 := by omega
      go_wp2_with fail
      go_ret
      exact ⟨rfl, rfl⟩

set_option maxHeartbeats 1000000 in
theorem eqInt_same (c s : Int) (w : World) :
    Calls Try.prog 61 #[.agg #[.int .i64 c, .int .i64 s], .agg #[.int .i64 c, .int .i64 s]] w fun e w' => e = .returned (.bool true) ∧ Below w.heap.size w w' := by
  have hcc : (c != c) = false := by simp
  have hss : (s != s) = false := by simp
  go_enter Try.func61, Try.ntmps61
  go_wp2_with fail
  go_ret
  exact ⟨rfl, ((Below.refl _ _).alloc (Nat.le_refl _) _).alloc (by simp) _⟩

theorem joinR_is (a b : Int) : ∃ c s : Int, joinR a b = .agg #[.int .i64 c, .int .i64 s] := by
  unfold joinR
  cases (Ch.isM a && Ch.isM b)
  · exact ⟨_, _, rfl⟩
  · exact ⟨_, _, rfl⟩

end Go.Proofs.Ytjagobcogkdfhaa


/- l6Ask. -/
namespace Go.Proofs.Ytjagobcogkdfhaa
open Go.RowKit

theorem OwnK.setLow {T : TypeId} {W : World} {B b n : Nat} {v : Value} {ls : List Ch.Lock} {vs : List (Value × Value)} (hh : OwnK T W B v n ls vs) (hb : b < B) (i : Nat) (u : Value) : OwnK T (W.setCell ⟨b, i, none⟩ u) B v n ls vs :=
  ⟨hh.len, hh.vlen, ownsRow_setCell_below hh.row hb _, fun j p hp => ownsRow_setCell_below (hh.hs j p hp) hb _, fun j p hp => ownsRow_setCell_below (hh.qs j p hp) hb _, hh.apart⟩
def Ch.askX (ls : List Ch.Lock) (t r m : Int) : Int × Bool × List Ch.Lock := if (Ch.askAt ls t r m).2.1 != 0 then ((Ch.askAt ls t r m).2.1, false, []) else (0, (Ch.askAt ls t r m).1, Ch.askLs ls t r m)
theorem Ch.askX_no {ls : List Ch.Lock} {t r m : Int} {b : Bool} {l : Ch.Lock} (h : Ch.askOne (Ch.lkAt (Ch.withL r ls) (Ch.placeR r ls)) t m = (b, 2, l)) : Ch.askX ls t r m = (2, false, []) := by
  unfold Ch.askX Ch.askAt; rw [h]; rfl
theorem Ch.askX_ok {ls : List Ch.Lock} {t r m : Int} {b : Bool} {l : Ch.Lock} (h : Ch.askOne (Ch.lkAt (Ch.withL r ls) (Ch.placeR r ls)) t m = (b, 0, l)) : Ch.askX ls t r m = (0, b, Ch.askLs ls t r m) := by
  unfold Ch.askX Ch.askAt; rw [h]; rfl
theorem Ch.enter_end {l : Ch.Lock} {h : Ch.Hold} (hq : ¬ 20 ≤ l.qs.length) : Ch.enterL l l.qs.length h = (false, 0, ⟨l.r, l.hs, l.qs ++ [h]⟩) := by
  rw [Ch.enter_room hq]; simp

set_option linter.unusedSimpArgs false in
set_option maxRecDepth 20000 in
set_option maxHeartbeats 2000000 in
theorem l6Ask_any (a : Option Addr) (n cap : Nat) (t res mode : Int) (ls : List Ch.Lock) (w : World) (h : LkAt w a n ls) (hs : Ch.lkSize ls ≤ 1048576) (hg : Ch.locksFault ls = 0) (hm : Ch.inB mode 1 5 = true) :
    Calls Try.prog 180 #[.slice a n cap, .int .i64 t, .int .i64 res, .int .i64 mode] w fun e w' => ∃ a2 m2 c2, e = .returned (.agg #[.int .i64 (Ch.askX ls t res mode).1, .bool (Ch.askX ls t res mode).2.1, .slice none 0 0, .slice a2 m2 c2]) ∧ OwnLk 129 w' w.heap.size (.slice a2 m2 c2) m2 (Ch.askX ls t res mode).2.2 ∧ Below w.heap.size w w' := by
  have kA : ∀ o, Below w.heap.size w (w.alloc o) := fun o => (Below.refl _ _).alloc (Nat.le_refl _) o
  have HL := h.len
  have hn : n ≤ 1048576 := by unfold Ch.lkSize at hs; have := HL.out; omega
  have HPL := hid (Ch.with_len res ls).1
  have HWA := hid (Ch.with_at hg res)
  have HM := hid (Ch.held_isM hm)
  have HMB := hid hm
  obtain ⟨j0, gi0, gz0, gz1, gz2⟩ := info_parts Try.info131
  have HXN := hid (fun b l => Ch.askX_no (ls := ls) (t := t) (r := res) (m := mode) (b := b) (l := l))
  have HXO := hid (fun b l => Ch.askX_ok (ls := ls) (t := t) (r := res) (m := mode) (b := b) (l := l))
  obtain ⟨l, HLK⟩ : ∃ l, Hid (Ch.lkAt (Ch.withL res ls) (Ch.placeR res ls) = l) := ⟨_, rfl⟩
  rw [HLK.out] at HWA HXN HXO
  obtain ⟨r, lhs, lqs⟩ := l
  simp only at HWA
  have hszh : lhs.length ≤ 1048576 := by have := HWA.out.1; omega
  have hszq : lqs.length ≤ 1048576 := by have := HWA.out.2.1; omega
  have HNM := hid HWA.out.2.2.1
  clear hg hm
  rcases Ch.atH_cases lhs t with ⟨he, HAT, hmz⟩ | ⟨j, hj, HAT, he, hjt, hjm⟩
  · have HCF := hid (Ch.ask_end (l := ⟨r, lhs, lqs⟩) (t := t) (m := mode) (by simp only; rw [hmz]; exact Ch.cov_none HMB.out))
    have HCP := hid (Ch.ask_put (l := ⟨r, lhs, lqs⟩) (t := t) (m := mode) (by simp only; rw [hmz]; exact Ch.cov_none HMB.out))
    have HCX := hid (Ch.ask_full (l := ⟨r, lhs, lqs⟩) (t := t) (m := mode) (by simp only; rw [hmz]; exact Ch.cov_none HMB.out))
    have HPN := hid (Ch.putH_no (h := ⟨t, mode⟩) he)
    simp only at HCF HCP HCX
    rw [hmz, Ch.join_none HMB.out] at HCF HCP HCX
    rw [he] at HCP HCX
    clear hmz he
    go_enter Try.func180, Try.ntmps180
    go_wp2_with fail
    refine (l6Copy_any a n cap ls _ (h.below (kA _)) hs).mono ?_
    rintro e w2 ⟨o0, c2, rfl, ⟨vs2, own2⟩, b2⟩
    have hR2 := heap_below b2 (heap_alloc_new w _)
    have BW2 := below_box b2
    have lz0 : w.heap.size < (w.alloc (.cells #[.int .i64 0, .bool false, .slice none 0 0, .slice none 0 0] 213)).heap.size := by rw [World.size_alloc]; omega
    have hB2 := b2.size
    generalize (w.alloc (.cells #[.int .i64 0, .bool false, .slice none 0 0, .slice none 0 0] 213)).heap.size = B1 at *
    clear b2
    go_wp2_with fail
    refine (l6Place_any B1 o0 n c2 res ls vs2 _ own2 hn hB2).mono ?_
    rintro e w3 ⟨a3, m3, c3, rfl, ⟨vs3, own3⟩, b3⟩
    have hRU := heap_lower b3 lz0 hR2
    have BWU := BW2.trans (b3.mono (by omega))
    have hBU : B1 ≤ w3.heap.size := Nat.le_trans hB2 b3.size
    have hwl := lz0
    have lz := lz0
    have hk3 : Ch.placeR res ls < m3 := by have h1 := own3.len; have := HPL.out; omega
    obtain ⟨o, rfl⟩ := own3.rowAt hk3
    clear own2 b3 hB2 hR2 BW2
    obtain ⟨ah, ch, aq, cq, hp, c0, u1, u2, f1, f2, o1, o2, ne, nr, ob1, ob2⟩ := own3.one hk3
    have hr0 : Hid ((Ch.lkAt (Ch.withL res ls) (Ch.placeR res ls)).r = r) := by show _ = _; rw [HLK.out]
    rw [HLK.out] at hp c0 u1 u2 o1 o2 ne nr
    simp only at hp c0 u1 u2 o1 o2 ne nr
    have h3 := owns_cells o1
    have HLS : Hid (∀ x, Ch.askOne ⟨r, lhs, lqs⟩ t mode = x → Ch.askLs ls t res mode = (Ch.withL res ls).set (Ch.placeR res ls) x.2.2) := fun x hx => by show (Ch.withL res ls).set _ (Ch.askOne (Ch.lkAt (Ch.withL res ls) (Ch.placeR res ls)) t mode).2.2 = _; rw [HLK.out, hx]
    have HSM := hid (Ch.lk_same (Ch.withL res ls) (Ch.placeR res ls))
    rw [HLK.out] at HSM
    generalize Ch.placeR res ls = pl at *
    have ownU := own3
    clear own3
    generalize w3 = U0 at *
    have HAT := hid HAT
    go_wp2_with fail
    refine (l6At_any ah lhs.length ch t lhs _ h3 hszh).mono ?_
    rintro e w4 ⟨rfl, hw4⟩
    obtain rfl : U0 = w4 := hw4.symm
    rw [HAT.out]
    have kX : Below U0.heap.size U0 (U0.alloc (.cells #[.int .i64 t, .int .i64 mode] 131)) := (Below.refl _ _).alloc (Nat.le_refl _) _
    have z0 : (U0.alloc (.cells #[.int .i64 t, .int .i64 mode] 131)).cell? ⟨U0.heap.size, 0, none⟩ = some (.int .i64 t) := by simp [go_sem]
    have z1 : (U0.alloc (.cells #[.int .i64 t, .int .i64 mode] 131)).cell? ⟨U0.heap.size, 1, none⟩ = some (.int .i64 mode) := by simp [go_sem]
    have HBX : Hid (U0.heap.size ∉ (Value.slice (some ⟨o, 0, none⟩) m3 c3).ownBlock.toList ++ vs3.flatMap blks) := fun hmem => by
      rw [List.mem_append] at hmem
      rcases hmem with h2 | h2
      · have := (owns_lt ownU.row _ (by simpa using h2)).2; omega
      · obtain ⟨i, q, hq, hgq⟩ := flat_mem h2
        have := (ownU.bd hq hgq).2; omega
    replace u1 := keep_cell kX u1
    replace u2 := keep_cell kX u2
    replace f1 := ((bcell kX).2 o (pl * 3 + 1) ob2).trans f1
    replace f2 := ((bcell kX).2 o (pl * 3 + 2) ob2).trans f2
    replace o1 := owns_below o1 kX
    replace o2 := owns_below o2 kX
    replace h3 := h3.below kX
    replace ownU := ownU.below kX
    replace hRU := heap_below kX hRU
    replace BWU := BWU.trans (kX.mono BWU.size)
    replace hBU := Nat.le_trans hBU kX.size
    have hob : o ≠ U0.heap.size := fun e => HBX.out (List.mem_append.2 (.inl (by simp [Value.ownBlock, ← e])))
    clear kX c0 ob2
    by_cases hq0 : lqs.length = 0
    · have hqb : ((lqs.length : Int) == 0) = true := by rw [hq0]; rfl
      cases hft : Ch.fitsH lhs t mode
      · have HE := hid ((HCF.out (by rw [hft]; rfl)).trans (Ch.enter_end (l := ⟨r, lhs, lqs⟩) (by simp only; omega)))
        have HAX := hid (HXO.out _ _ HE.out)
        have HLX := hid (HLS.out _ HE.out)
        simp only at HLX
        have h20 : ¬ 20 ≤ lqs.length := by omega
        clear hq0
        go_wp2_with fail
        generalize U0.alloc (.cells #[.int .i64 t, .int .i64 mode] 131) = U at *
        generalize U0.heap.size = bx at *
        refine (l6Fits_any ah lhs.length ch t mode lhs _ h3 hszh HNM.out HM.out).mono ?_
        rintro e w5 ⟨rfl, hw5⟩
        obtain rfl : U = w5 := hw5.symm
        rw [hft]
        clear hqb
        go_wp2_with fail
        have BWV : Below w.heap.size w U.drew := BWU.drew
        have hRV : U.drew.heap[w.heap.size]? = _ := hRU
        have own := ownU.below ((Below.refl _ _).drew : Below U.heap.size U U.drew)
        have hB1 : B1 ≤ U.drew.heap.size := hBU
        replace z0 : U.drew.cell? ⟨bx, 0, none⟩ = _ := z0
        replace z1 : U.drew.cell? ⟨bx, 1, none⟩ = _ := z1
        replace u1 : U.drew.cell? ⟨o, pl * 3 + 1, none⟩ = _ := u1
        replace u2 : U.drew.cell? ⟨o, pl * 3 + 2, none⟩ = _ := u2
        replace o1 := owns_below o1 ((Below.refl _ _).drew : Below U.heap.size U U.drew)
        replace o2 := owns_below o2 ((Below.refl _ _).drew : Below U.heap.size U U.drew)
        replace f1 : U.drew.frozen? ⟨o, pl * 3 + 1, none⟩ = _ := f1
        replace f2 : U.drew.frozen? ⟨o, pl * 3 + 2, none⟩ = _ := f2
        refine wp_region_noPanic ?_
        refine wp_region_held_drew (S := fun W' => W'.cell? ⟨bx, 0, none⟩ = some (.int .i64 t) ∧ W'.cell? ⟨bx, 1, none⟩ = some (.int .i64 mode)) (by kernel_rfl) (⟨z0, z1⟩) (fun hH => ?_)
        generalize U.drew = V at *
        have lo2 : o < V.heap.size := lt_of_cell u1
        have kN : Below V.heap.size V (V.alloc (.cells #[.int .i64 t, .int .i64 mode] 131)) := (Below.refl _ _).alloc (Nat.le_refl _) _
        have kT := kN
        have oN := owns_below o2 kN
        have hC := new_hold V t mode 131
        have hsum : lqs.length + 1 ≤ 4194304 := by omega
        have hb3 : B1 ≤ (V.alloc (.cells #[.int .i64 t, .int .i64 mode] 131)).heap.size := Nat.le_trans hB1 kN.size
        have hbx : (Value.slice aq lqs.length cq).ownBlock ≠ some bx := fun e => HBX.out (List.mem_append.2 (.inr (List.mem_flatMap.2 ⟨_, List.mem_of_getElem? hp, by simp [blks, e]⟩)))
        refine hTake (i := 0) (v := ?_) rfl (by kernel_rfl) (by kernel_rfl) (by kernel_rfl) (by rfl) ?_ hH ?_
        rotate_left
        · intro W hW; (try dsimp only at hW); go_simp <;> with_reducible rfl
        simp only [Act.put, List.setIfInBounds_toArray, List.set_cons_zero, List.set_cons_succ]
        refine hTake (i := 1) (v := ?_) rfl (by kernel_rfl) (by kernel_rfl) (by kernel_rfl) (by rfl) ?_ hH ?_
        rotate_left
        · intro W hW; (try dsimp only at hW); go_simp <;> with_reducible rfl
        simp only [Act.put, List.setIfInBounds_toArray, List.set_cons_zero, List.set_cons_succ]
        refine hTake (i := 2) (v := ?_) rfl (by kernel_rfl) (by kernel_rfl) (by kernel_rfl) (by rfl) ?_ hH ?_
        rotate_left
        · intro W hW; (try dsimp only at hW); go_simp <;> with_reducible rfl
        simp only [Act.put, List.setIfInBounds_toArray, List.set_cons_zero, List.set_cons_succ]
        refine hTake (i := 3) (v := ?_) rfl (by kernel_rfl) (by kernel_rfl) (by kernel_rfl) (by rfl) ?_ hH ?_
        rotate_left
        · intro W hW; (try dsimp only at hW); go_simp <;> with_reducible rfl
        simp only [Act.put, List.setIfInBounds_toArray, List.set_cons_zero, List.set_cons_succ]
        refine hTake (i := 5) (v := ?_) rfl (by kernel_rfl) (by kernel_rfl) (by kernel_rfl) (by rfl) ?_ hH ?_
        rotate_left
        · intro W hW; (try dsimp only at hW); go_simp <;> with_reducible rfl
        simp only [Act.put, List.setIfInBounds_toArray, List.set_cons_zero, List.set_cons_succ]
        refine wpAnyH_ready (rs := [4, 6]) (by kernel_rfl) (by simp) ?_
        refine AllReadyH.cons rfl (fun K hK => ?_) (AllReadyH.cons rfl (fun K hK => ?_) AllReadyH.nil)
        · go_simp
          refine hK.out _ _ hH (fun hH => ?_)
          clear hK K
          refine wpAnyH_ready (rs := [6]) (by kernel_rfl) (by simp) ?_
          refine AllReadyH.cons rfl (fun K hK => ?_) AllReadyH.nil
          go_simp
          refine hK.out _ _ ⟨keep_cell kN hH.1, keep_cell kN hH.2⟩ (fun hH => ?_)
          clear hK K
          refine wpAnyH_ready (rs := [7]) (by kernel_rfl) (by simp) ?_
          refine AllReadyH.cons rfl (fun K hK => ?_) AllReadyH.nil
          refine step_appX Try.underlying127 Try.underlying127 gi0 gz0 gz1 gz2 rfl (by omega) (by omega) (.tmp 141) (.tmp 143) rfl rfl B1 (.slice aq lqs.length cq) lqs.length (hcells lqs) _ 1 1 (hcells [⟨t, mode⟩]) rfl rfl oN hC (hcells_one' _) hsum hb3 ?_
          intro a5 c5 w5 own5 gr5 at5
          have d1 := (grown_cell gr5 (keep_cell kN u2) (fun e => nr (by simp [blks, e])))
          have g1 := (gr5.frozen_far ⟨o, pl * 3 + 2, none⟩ (Nat.lt_of_lt_of_le lo2 kN.size) (by show some o ≠ _; exact fun e => nr (by simp [blks, e.symm]))).trans (((bcell kN).2 o (pl * 3 + 2) lo2).trans f2)
          have lo5 := lt_of_cell d1
          refine hK.out _ _ ⟨grown_cell gr5 hH.1 hbx, grown_cell gr5 hH.2 hbx⟩ (fun hH => ?_)
          clear hK K
          simp only [Act.put, List.setIfInBounds_toArray, List.set_cons_zero, List.set_cons_succ]
          refine hTake (i := 8) (v := ?_) rfl (by kernel_rfl) (by kernel_rfl) (by kernel_rfl) (by rfl) ?_ hH ?_
          rotate_left
          · intro W hW; (try dsimp only at hW); go_simp <;> with_reducible rfl
          simp only [Act.put, List.setIfInBounds_toArray, List.set_cons_zero, List.set_cons_succ]
          refine hTake (i := 9) (v := ?_) rfl (by kernel_rfl) (by kernel_rfl) (by kernel_rfl) (by rfl) ?_ hH ?_
          rotate_left
          · intro W hW; (try dsimp only at hW); go_simp <;> with_reducible rfl
          simp only [Act.put, List.setIfInBounds_toArray, List.set_cons_zero, List.set_cons_succ]
          refine wpAnyH_ready (rs := [10]) (by kernel_rfl) (by simp) ?_
          refine AllReadyH.cons rfl (fun K hK => ?_) AllReadyH.nil
          go_simp
          refine hK.out _ _ (by first | (go_simp; done) | exact ⟨by rw [World.cell?_setCell_other _ _ _ _ (by simp; omega)]; exact hH.1, by rw [World.cell?_setCell_other _ _ _ _ (by simp; omega)]; exact hH.2⟩) (fun hH => ?_)
          clear hK K
          refine wpAnyH_done (by kernel_rfl) ?_ _
          refine NoPanic.normal ?_
          rw [← hcells_append] at own5
          have grT : V.grownBy w5 (Value.slice aq lqs.length cq).ownBlock := ⟨gr5.os.trans kT.os, gr5.tape.trans kT.tape, gr5.output.trans kT.output, Nat.le_trans kT.size gr5.size, fun q hq hne => (gr5.block q (Nat.lt_of_lt_of_le hq kT.size) hne).trans (kT.block q hq)⟩
          have hf : ∀ g ∈ blks (.slice ah lhs.length ch, .slice a5 (lqs.length + 1) c5), g ∈ blks (.slice ah lhs.length ch, .slice aq lqs.length cq) ∨ V.heap.size ≤ g := by
            intro g hg
            simp only [blks, List.mem_append, Option.mem_toList] at hg ⊢
            rcases hg with hg | hg
            · exact .inl (.inl hg)
            · rcases at5 g hg with h1 | h1
              · exact .inl (.inr h1)
              · exact .inr (Nat.le_trans kT.size h1)
          have oy' := owns_grown o1 grT (fun g hg e => ne g hg e)
          have ownx := own.swap (j := 2) (z := .slice a5 (lqs.length + 1) c5) hp grT (fun g hg => by simp [blks, hg]) (l := ⟨r, lhs, lqs ++ [⟨t, mode⟩]⟩) hr0.out.symm oy' (by simp only [List.length_append, List.length_cons, List.length_nil]; exact own5) (fun g h1 h2 => by
            rcases at5 g h2 with h3 | h3
            · exact ne g h1 h3
            · exact absurd (owns_lt o1 g h1).2 (Nat.not_lt_of_le (Nat.le_trans kT.size h3))) hf (.inr ⟨rfl, rfl, rfl⟩)
          have hst := (owns_grown own.row grT (fun g hg e => by cases hg; exact nr (by simp [blks, e]))).stored (pl * 3 + 2) (.slice a5 (lqs.length + 1) c5)
          have mv := (moved_two (v := .slice (some ⟨o, 0, none⟩) m3 c3) (vs' := vs3.set pl (.slice ah lhs.length ch, .slice a5 (lqs.length + 1) c5)) hp rfl grT hst.2 (fun g hg => by simp [blks, hg]) rfl hf).below own hB1
          rw [← HLX.out] at ownx
          have hRx := heap_lower mv lz hRV
          have BWx := BWV.trans (mv.mono (by omega))
          clear own5 hf hst grT gr5 at5 oy' mv d1 g1
          obtain ⟨⟨x0, x1, x2, x3⟩, ff0, ff1, ff2, ff3⟩ := row4 hRx
          have lrx := lt_of_cell x0
          have OX := hid ownx
          clear ownx
          go_wp2
          exact bodyPost_ret (v := .agg #[.int .i64 0, .bool false, .slice none 0 0, .slice (some ⟨o, 0, none⟩) m3 c3]) (by simp [results, Try.results180, go_sem, x0, x1, x2, x3]) rfl ⟨_, _, _, by rw [HAX.out], by rw [HAX.out]; exact ⟨_, ((((OX.out.setLow hwl _ _).setLow hwl _ _).setLow hwl _ _).setLow hwl _ _).base (by omega)⟩, (BWx.setCell (p := ⟨w.heap.size, 0, none⟩) (Nat.le_refl _) _ |>.setCell (p := ⟨w.heap.size, 1, none⟩) (Nat.le_refl _) _ |>.setCell (p := ⟨w.heap.size, 2, none⟩) (Nat.le_refl _) _ |>.setCell (p := ⟨w.heap.size, 3, none⟩) (Nat.le_refl _) _)⟩
        · go_simp
          refine hK.out _ _ ⟨keep_cell kN hH.1, keep_cell kN hH.2⟩ (fun hH => ?_)
          clear hK K
          refine wpAnyH_ready (rs := [4]) (by kernel_rfl) (by simp) ?_
          refine AllReadyH.cons rfl (fun K hK => ?_) AllReadyH.nil
          have e1 := keep_cell kN u2
          go_simp
          refine hK.out _ _ hH (fun hH => ?_)
          clear hK K
          refine wpAnyH_ready (rs := [7]) (by kernel_rfl) (by simp) ?_
          refine AllReadyH.cons rfl (fun K hK => ?_) AllReadyH.nil
          refine step_appX Try.underlying127 Try.underlying127 gi0 gz0 gz1 gz2 rfl (by omega) (by omega) (.tmp 141) (.tmp 143) rfl rfl B1 (.slice aq lqs.length cq) lqs.length (hcells lqs) _ 1 1 (hcells [⟨t, mode⟩]) rfl rfl oN hC (hcells_one' _) hsum hb3 ?_
          intro a5 c5 w5 own5 gr5 at5
          have d1 := (grown_cell gr5 (keep_cell kN u2) (fun e => nr (by simp [blks, e])))
          have g1 := (gr5.frozen_far ⟨o, pl * 3 + 2, none⟩ (Nat.lt_of_lt_of_le lo2 kN.size) (by show some o ≠ _; exact fun e => nr (by simp [blks, e.symm]))).trans (((bcell kN).2 o (pl * 3 + 2) lo2).trans f2)
          have lo5 := lt_of_cell d1
          refine hK.out _ _ ⟨grown_cell gr5 hH.1 hbx, grown_cell gr5 hH.2 hbx⟩ (fun hH => ?_)
          clear hK K
          simp only [Act.put, List.setIfInBounds_toArray, List.set_cons_zero, List.set_cons_succ]
          refine hTake (i := 8) (v := ?_) rfl (by kernel_rfl) (by kernel_rfl) (by kernel_rfl) (by rfl) ?_ hH ?_
          rotate_left
          · intro W hW; (try dsimp only at hW); go_simp <;> with_reducible rfl
          simp only [Act.put, List.setIfInBounds_toArray, List.set_cons_zero, List.set_cons_succ]
          refine hTake (i := 9) (v := ?_) rfl (by kernel_rfl) (by kernel_rfl) (by kernel_rfl) (by rfl) ?_ hH ?_
          rotate_left
          · intro W hW; (try dsimp only at hW); go_simp <;> with_reducible rfl
          simp only [Act.put, List.setIfInBounds_toArray, List.set_cons_zero, List.set_cons_succ]
          refine wpAnyH_ready (rs := [10]) (by kernel_rfl) (by simp) ?_
          refine AllReadyH.cons rfl (fun K hK => ?_) AllReadyH.nil
          go_simp
          refine hK.out _ _ (by first | (go_simp; done) | exact ⟨by rw [World.cell?_setCell_other _ _ _ _ (by simp; omega)]; exact hH.1, by rw [World.cell?_setCell_other _ _ _ _ (by simp; omega)]; exact hH.2⟩) (fun hH => ?_)
          clear hK K
          refine wpAnyH_done (by kernel_rfl) ?_ _
          refine NoPanic.normal ?_
          rw [← hcells_append] at own5
          have grT : V.grownBy w5 (Value.slice aq lqs.length cq).ownBlock := ⟨gr5.os.trans kT.os, gr5.tape.trans kT.tape, gr5.output.trans kT.output, Nat.le_trans kT.size gr5.size, fun q hq hne => (gr5.block q (Nat.lt_of_lt_of_le hq kT.size) hne).trans (kT.block q hq)⟩
          have hf : ∀ g ∈ blks (.slice ah lhs.length ch, .slice a5 (lqs.length + 1) c5), g ∈ blks (.slice ah lhs.length ch, .slice aq lqs.length cq) ∨ V.heap.size ≤ g := by
            intro g hg
            simp only [blks, List.mem_append, Option.mem_toList] at hg ⊢
            rcases hg with hg | hg
            · exact .inl (.inl hg)
            · rcases at5 g hg with h1 | h1
              · exact .inl (.inr h1)
              · exact .inr (Nat.le_trans kT.size h1)
          have oy' := owns_grown o1 grT (fun g hg e => ne g hg e)
          have ownx := own.swap (j := 2) (z := .slice a5 (lqs.length + 1) c5) hp grT (fun g hg => by simp [blks, hg]) (l := ⟨r, lhs, lqs ++ [⟨t, mode⟩]⟩) hr0.out.symm oy' (by simp only [List.length_append, List.length_cons, List.length_nil]; exact own5) (fun g h1 h2 => by
            rcases at5 g h2 with h3 | h3
            · exact ne g h1 h3
            · exact absurd (owns_lt o1 g h1).2 (Nat.not_lt_of_le (Nat.le_trans kT.size h3))) hf (.inr ⟨rfl, rfl, rfl⟩)
          have hst := (owns_grown own.row grT (fun g hg e => by cases hg; exact nr (by simp [blks, e]))).stored (pl * 3 + 2) (.slice a5 (lqs.length + 1) c5)
          have mv := (moved_two (v := .slice (some ⟨o, 0, none⟩) m3 c3) (vs' := vs3.set pl (.slice ah lhs.length ch, .slice a5 (lqs.length + 1) c5)) hp rfl grT hst.2 (fun g hg => by simp [blks, hg]) rfl hf).below own hB1
          rw [← HLX.out] at ownx
          have hRx := heap_lower mv lz hRV
          have BWx := BWV.trans (mv.mono (by omega))
          clear own5 hf hst grT gr5 at5 oy' mv d1 g1
          obtain ⟨⟨x0, x1, x2, x3⟩, ff0, ff1, ff2, ff3⟩ := row4 hRx
          have lrx := lt_of_cell x0
          have OX := hid ownx
          clear ownx
          go_wp2
          exact bodyPost_ret (v := .agg #[.int .i64 0, .bool false, .slice none 0 0, .slice (some ⟨o, 0, none⟩) m3 c3]) (by simp [results, Try.results180, go_sem, x0, x1, x2, x3]) rfl ⟨_, _, _, by rw [HAX.out], by rw [HAX.out]; exact ⟨_, ((((OX.out.setLow hwl _ _).setLow hwl _ _).setLow hwl _ _).setLow hwl _ _).base (by omega)⟩, (BWx.setCell (p := ⟨w.heap.size, 0, none⟩) (Nat.le_refl _) _ |>.setCell (p := ⟨w.heap.size, 1, none⟩) (Nat.le_refl _) _ |>.setCell (p := ⟨w.heap.size, 2, none⟩) (Nat.le_refl _) _ |>.setCell (p := ⟨w.heap.size, 3, none⟩) (Nat.le_refl _) _)⟩
      · by_cases h20 : 20 ≤ lhs.length
        · have HE := hid (HCX.out (by rw [hft, hq0]; rfl) hft (by simp; omega))
          have HAX := hid (HXN.out _ _ HE.out)
          clear hq0
          go_wp2_with fail
          generalize U0.alloc (.cells #[.int .i64 t, .int .i64 mode] 131) = U at *
          generalize U0.heap.size = bx at *
          refine (l6Fits_any ah lhs.length ch t mode lhs _ h3 hszh HNM.out HM.out).mono ?_
          rintro e w5 ⟨rfl, hw5⟩
          obtain rfl : U = w5 := hw5.symm
          rw [hft]
          have hRx := hRU
          have BWx := BWU
          obtain ⟨⟨x0, x1, x2, x3⟩, ff0, ff1, ff2, ff3⟩ := row4 hRx
          have lrx := lt_of_cell x0
          go_wp2
          exact bodyPost_ret (v := .agg #[.int .i64 2, .bool false, .slice none 0 0, .slice none 0 0]) (by simp [results, Try.results180, go_sem, x0, x1, x2, x3]) rfl ⟨none, 0, 0, by rw [HAX.out], by rw [HAX.out]; exact ⟨[], OwnK.nil _ _ _⟩, (BWx.setCell (p := ⟨w.heap.size, 0, none⟩) (Nat.le_refl _) _ |>.setCell (p := ⟨w.heap.size, 1, none⟩) (Nat.le_refl _) _ |>.setCell (p := ⟨w.heap.size, 2, none⟩) (Nat.le_refl _) _ |>.setCell (p := ⟨w.heap.size, 3, none⟩) (Nat.le_refl _) _)⟩
        · have HE := hid ((HCP.out (by rw [hft, hq0]; rfl) hft (by simp; omega)).trans (by rw [HPN.out]))
          have HAX := hid (HXO.out _ _ HE.out)
          have HLX := hid (HLS.out _ HE.out)
          simp only at HLX
          clear hq0
          go_wp2_with fail
          generalize U0.alloc (.cells #[.int .i64 t, .int .i64 mode] 131) = U at *
          generalize U0.heap.size = bx at *
          refine (l6Fits_any ah lhs.length ch t mode lhs _ h3 hszh HNM.out HM.out).mono ?_
          rintro e w5 ⟨rfl, hw5⟩
          obtain rfl : U = w5 := hw5.symm
          rw [hft]
          clear hqb
          go_wp2_with fail
          have BWV : Below w.heap.size w U.drew := BWU.drew
          have hRV : U.drew.heap[w.heap.size]? = _ := hRU
          have own := ownU.below ((Below.refl _ _).drew : Below U.heap.size U U.drew)
          have hB1 : B1 ≤ U.drew.heap.size := hBU
          replace z0 : U.drew.cell? ⟨bx, 0, none⟩ = _ := z0
          replace z1 : U.drew.cell? ⟨bx, 1, none⟩ = _ := z1
          replace u1 : U.drew.cell? ⟨o, pl * 3 + 1, none⟩ = _ := u1
          replace u2 : U.drew.cell? ⟨o, pl * 3 + 2, none⟩ = _ := u2
          replace o1 := owns_below o1 ((Below.refl _ _).drew : Below U.heap.size U U.drew)
          replace o2 := owns_below o2 ((Below.refl _ _).drew : Below U.heap.size U U.drew)
          replace f1 : U.drew.frozen? ⟨o, pl * 3 + 1, none⟩ = _ := f1
          replace f2 : U.drew.frozen? ⟨o, pl * 3 + 2, none⟩ = _ := f2
          refine wp_region_noPanic ?_
          refine wp_region_held_drew (S := fun W' => W'.cell? ⟨bx, 0, none⟩ = some (.int .i64 t) ∧ W'.cell? ⟨bx, 1, none⟩ = some (.int .i64 mode)) (by kernel_rfl) (⟨z0, z1⟩) (fun hH => ?_)
          generalize U.drew = V at *
          have lo2 : o < V.heap.size := lt_of_cell u1
          have kN : Below V.heap.size V (V.alloc (.cells #[.int .i64 t, .int .i64 mode] 131)) := (Below.refl _ _).alloc (Nat.le_refl _) _
          have kT := kN
          have oN := owns_below o1 kN
          have hC := new_hold V t mode 131
          have hsum : lhs.length + 1 ≤ 4194304 := by omega
          have hb3 : B1 ≤ (V.alloc (.cells #[.int .i64 t, .int .i64 mode] 131)).heap.size := Nat.le_trans hB1 kN.size
          have hbx : (Value.slice ah lhs.length ch).ownBlock ≠ some bx := fun e => HBX.out (List.mem_append.2 (.inr (List.mem_flatMap.2 ⟨_, List.mem_of_getElem? hp, by simp [blks, e]⟩)))
          refine hTake (i := 0) (v := ?_) rfl (by kernel_rfl) (by kernel_rfl) (by kernel_rfl) (by rfl) ?_ hH ?_
          rotate_left
          · intro W hW; (try dsimp only at hW); go_simp <;> with_reducible rfl
          simp only [Act.put, List.setIfInBounds_toArray, List.set_cons_zero, List.set_cons_succ]
          refine hTake (i := 1) (v := ?_) rfl (by kernel_rfl) (by kernel_rfl) (by kernel_rfl) (by rfl) ?_ hH ?_
          rotate_left
          · intro W hW; (try dsimp only at hW); go_simp <;> with_reducible rfl
          simp only [Act.put, List.setIfInBounds_toArray, List.set_cons_zero, List.set_cons_succ]
          refine hTake (i := 2) (v := ?_) rfl (by kernel_rfl) (by kernel_rfl) (by kernel_rfl) (by rfl) ?_ hH ?_
          rotate_left
          · intro W hW; (try dsimp only at hW); go_simp <;> with_reducible rfl
          simp only [Act.put, List.setIfInBounds_toArray, List.set_cons_zero, List.set_cons_succ]
          refine hTake (i := 3) (v := ?_) rfl (by kernel_rfl) (by kernel_rfl) (by kernel_rfl) (by rfl) ?_ hH ?_
          rotate_left
          · intro W hW; (try dsimp only at hW); go_simp <;> with_reducible rfl
          simp only [Act.put, List.setIfInBounds_toArray, List.set_cons_zero, List.set_cons_succ]
          refine hTake (i := 5) (v := ?_) rfl (by kernel_rfl) (by kernel_rfl) (by kernel_rfl) (by rfl) ?_ hH ?_
          rotate_left
          · intro W hW; (try dsimp only at hW); go_simp <;> with_reducible rfl
          simp only [Act.put, List.setIfInBounds_toArray, List.set_cons_zero, List.set_cons_succ]
          refine wpAnyH_ready (rs := [4, 6]) (by kernel_rfl) (by simp) ?_
          refine AllReadyH.cons rfl (fun K hK => ?_) (AllReadyH.cons rfl (fun K hK => ?_) AllReadyH.nil)
          · go_simp
            refine hK.out _ _ hH (fun hH => ?_)
            clear hK K
            refine wpAnyH_ready (rs := [6]) (by kernel_rfl) (by simp) ?_
            refine AllReadyH.cons rfl (fun K hK => ?_) AllReadyH.nil
            go_simp
            refine hK.out _ _ ⟨keep_cell kN hH.1, keep_cell kN hH.2⟩ (fun hH => ?_)
            clear hK K
            refine wpAnyH_ready (rs := [7]) (by kernel_rfl) (by simp) ?_
            refine AllReadyH.cons rfl (fun K hK => ?_) AllReadyH.nil
            refine step_appX Try.underlying127 Try.underlying127 gi0 gz0 gz1 gz2 rfl (by omega) (by omega) (.tmp 122) (.tmp 124) rfl rfl B1 (.slice ah lhs.length ch) lhs.length (hcells lhs) _ 1 1 (hcells [⟨t, mode⟩]) rfl rfl oN hC (hcells_one' _) hsum hb3 ?_
            intro a5 c5 w5 own5 gr5 at5
            have d1 := (grown_cell gr5 (keep_cell kN u1) (fun e => nr (by simp [blks, e])))
            have g1 := (gr5.frozen_far ⟨o, pl * 3 + 1, none⟩ (Nat.lt_of_lt_of_le lo2 kN.size) (by show some o ≠ _; exact fun e => nr (by simp [blks, e.symm]))).trans (((bcell kN).2 o (pl * 3 + 1) lo2).trans f1)
            have lo5 := lt_of_cell d1
            refine hK.out _ _ ⟨grown_cell gr5 hH.1 hbx, grown_cell gr5 hH.2 hbx⟩ (fun hH => ?_)
            clear hK K
            simp only [Act.put, List.setIfInBounds_toArray, List.set_cons_zero, List.set_cons_succ]
            refine hTake (i := 8) (v := ?_) rfl (by kernel_rfl) (by kernel_rfl) (by kernel_rfl) (by rfl) ?_ hH ?_
            rotate_left
            · intro W hW; (try dsimp only at hW); go_simp <;> with_reducible rfl
            simp only [Act.put, List.setIfInBounds_toArray, List.set_cons_zero, List.set_cons_succ]
            refine hTake (i := 9) (v := ?_) rfl (by kernel_rfl) (by kernel_rfl) (by kernel_rfl) (by rfl) ?_ hH ?_
            rotate_left
            · intro W hW; (try dsimp only at hW); go_simp <;> with_reducible rfl
            simp only [Act.put, List.setIfInBounds_toArray, List.set_cons_zero, List.set_cons_succ]
            refine wpAnyH_ready (rs := [10]) (by kernel_rfl) (by simp) ?_
            refine AllReadyH.cons rfl (fun K hK => ?_) AllReadyH.nil
            go_simp
            refine hK.out _ _ (by first | (go_simp; done) | exact ⟨by rw [World.cell?_setCell_other _ _ _ _ (by simp; omega)]; exact hH.1, by rw [World.cell?_setCell_other _ _ _ _ (by simp; omega)]; exact hH.2⟩) (fun hH => ?_)
            clear hK K
            refine wpAnyH_done (by kernel_rfl) ?_ _
            refine NoPanic.normal ?_
            rw [← hcells_append] at own5
            have grT : V.grownBy w5 (Value.slice ah lhs.length ch).ownBlock := ⟨gr5.os.trans kT.os, gr5.tape.trans kT.tape, gr5.output.trans kT.output, Nat.le_trans kT.size gr5.size, fun q hq hne => (gr5.block q (Nat.lt_of_lt_of_le hq kT.size) hne).trans (kT.block q hq)⟩
            have hf : ∀ g ∈ blks (.slice a5 (lhs.length + 1) c5, .slice aq lqs.length cq), g ∈ blks (.slice ah lhs.length ch, .slice aq lqs.length cq) ∨ V.heap.size ≤ g := by
              intro g hg
              simp only [blks, List.mem_append, Option.mem_toList] at hg ⊢
              rcases hg with hg | hg
              · rcases at5 g hg with h1 | h1
                · exact .inl (.inl h1)
                · exact .inr (Nat.le_trans kT.size h1)
              · exact .inl (.inr hg)
            have oy' := owns_grown o2 grT (fun g hg e => ne g e hg)
            have ownx := own.swap (j := 1) (z := .slice a5 (lhs.length + 1) c5) hp grT (fun g hg => by simp [blks, hg]) (l := ⟨r, lhs ++ [⟨t, mode⟩], lqs⟩) hr0.out.symm (by simp only [List.length_append, List.length_cons, List.length_nil]; exact own5) oy' (fun g h1 h2 => by
              rcases at5 g h1 with h3 | h3
              · exact ne g h3 h2
              · exact absurd (owns_lt o2 g h2).2 (Nat.not_lt_of_le (Nat.le_trans kT.size h3))) hf (.inl ⟨rfl, rfl, rfl⟩)
            have hst := (owns_grown own.row grT (fun g hg e => by cases hg; exact nr (by simp [blks, e]))).stored (pl * 3 + 1) (.slice a5 (lhs.length + 1) c5)
            have mv := (moved_two (v := .slice (some ⟨o, 0, none⟩) m3 c3) (vs' := vs3.set pl (.slice a5 (lhs.length + 1) c5, .slice aq lqs.length cq)) hp rfl grT hst.2 (fun g hg => by simp [blks, hg]) rfl hf).below own hB1
            rw [← HLX.out] at ownx
            have hRx := heap_lower mv lz hRV
            have BWx := BWV.trans (mv.mono (by omega))
            clear own5 hf hst grT gr5 at5 oy' mv d1 g1
            obtain ⟨⟨x0, x1, x2, x3⟩, ff0, ff1, ff2, ff3⟩ := row4 hRx
            have lrx := lt_of_cell x0
            have OX := hid ownx
            clear ownx
            go_wp2
            exact bodyPost_ret (v := .agg #[.int .i64 0, .bool true, .slice none 0 0, .slice (some ⟨o, 0, none⟩) m3 c3]) (by simp [results, Try.results180, go_sem, x0, x1, x2, x3]) rfl ⟨_, _, _, by rw [HAX.out], by rw [HAX.out]; exact ⟨_, ((((OX.out.setLow hwl _ _).setLow hwl _ _).setLow hwl _ _).setLow hwl _ _).base (by omega)⟩, (BWx.setCell (p := ⟨w.heap.size, 0, none⟩) (Nat.le_refl _) _ |>.setCell (p := ⟨w.heap.size, 1, none⟩) (Nat.le_refl _) _ |>.setCell (p := ⟨w.heap.size, 2, none⟩) (Nat.le_refl _) _ |>.setCell (p := ⟨w.heap.size, 3, none⟩) (Nat.le_refl _) _)⟩
          · go_simp
            refine hK.out _ _ ⟨keep_cell kN hH.1, keep_cell kN hH.2⟩ (fun hH => ?_)
            clear hK K
            refine wpAnyH_ready (rs := [4]) (by kernel_rfl) (by simp) ?_
            refine AllReadyH.cons rfl (fun K hK => ?_) AllReadyH.nil
            have e1 := keep_cell kN u1
            go_simp
            refine hK.out _ _ hH (fun hH => ?_)
            clear hK K
            refine wpAnyH_ready (rs := [7]) (by kernel_rfl) (by simp) ?_
            refine AllReadyH.cons rfl (fun K hK => ?_) AllReadyH.nil
            refine step_appX Try.underlying127 Try.underlying127 gi0 gz0 gz1 gz2 rfl (by omega) (by omega) (.tmp 122) (.tmp 124) rfl rfl B1 (.slice ah lhs.length ch) lhs.length (hcells lhs) _ 1 1 (hcells [⟨t, mode⟩]) rfl rfl oN hC (hcells_one' _) hsum hb3 ?_
            intro a5 c5 w5 own5 gr5 at5
            have d1 := (grown_cell gr5 (keep_cell kN u1) (fun e => nr (by simp [blks, e])))
            have g1 := (gr5.frozen_far ⟨o, pl * 3 + 1, none⟩ (Nat.lt_of_lt_of_le lo2 kN.size) (by show some o ≠ _; exact fun e => nr (by simp [blks, e.symm]))).trans (((bcell kN).2 o (pl * 3 + 1) lo2).trans f1)
            have lo5 := lt_of_cell d1
            refine hK.out _ _ ⟨grown_cell gr5 hH.1 hbx, grown_cell gr5 hH.2 hbx⟩ (fun hH => ?_)
            clear hK K
            simp only [Act.put, List.setIfInBounds_toArray, List.set_cons_zero, List.set_cons_succ]
            refine hTake (i := 8) (v := ?_) rfl (by kernel_rfl) (by kernel_rfl) (by kernel_rfl) (by rfl) ?_ hH ?_
            rotate_left
            · intro W hW; (try dsimp only at hW); go_simp <;> with_reducible rfl
            simp only [Act.put, List.setIfInBounds_toArray, List.set_cons_zero, List.set_cons_succ]
            refine hTake (i := 9) (v := ?_) rfl (by kernel_rfl) (by kernel_rfl) (by kernel_rfl) (by rfl) ?_ hH ?_
            rotate_left
            · intro W hW; (try dsimp only at hW); go_simp <;> with_reducible rfl
            simp only [Act.put, List.setIfInBounds_toArray, List.set_cons_zero, List.set_cons_succ]
            refine wpAnyH_ready (rs := [10]) (by kernel_rfl) (by simp) ?_
            refine AllReadyH.cons rfl (fun K hK => ?_) AllReadyH.nil
            go_simp
            refine hK.out _ _ (by first | (go_simp; done) | exact ⟨by rw [World.cell?_setCell_other _ _ _ _ (by simp; omega)]; exact hH.1, by rw [World.cell?_setCell_other _ _ _ _ (by simp; omega)]; exact hH.2⟩) (fun hH => ?_)
            clear hK K
            refine wpAnyH_done (by kernel_rfl) ?_ _
            refine NoPanic.normal ?_
            rw [← hcells_append] at own5
            have grT : V.grownBy w5 (Value.slice ah lhs.length ch).ownBlock := ⟨gr5.os.trans kT.os, gr5.tape.trans kT.tape, gr5.output.trans kT.output, Nat.le_trans kT.size gr5.size, fun q hq hne => (gr5.block q (Nat.lt_of_lt_of_le hq kT.size) hne).trans (kT.block q hq)⟩
            have hf : ∀ g ∈ blks (.slice a5 (lhs.length + 1) c5, .slice aq lqs.length cq), g ∈ blks (.slice ah lhs.length ch, .slice aq lqs.length cq) ∨ V.heap.size ≤ g := by
              intro g hg
              simp only [blks, List.mem_append, Option.mem_toList] at hg ⊢
              rcases hg with hg | hg
              · rcases at5 g hg with h1 | h1
                · exact .inl (.inl h1)
                · exact .inr (Nat.le_trans kT.size h1)
              · exact .inl (.inr hg)
            have oy' := owns_grown o2 grT (fun g hg e => ne g e hg)
            have ownx := own.swap (j := 1) (z := .slice a5 (lhs.length + 1) c5) hp grT (fun g hg => by simp [blks, hg]) (l := ⟨r, lhs ++ [⟨t, mode⟩], lqs⟩) hr0.out.symm (by simp only [List.length_append, List.length_cons, List.length_nil]; exact own5) oy' (fun g h1 h2 => by
              rcases at5 g h1 with h3 | h3
              · exact ne g h3 h2
              · exact absurd (owns_lt o2 g h2).2 (Nat.not_lt_of_le (Nat.le_trans kT.size h3))) hf (.inl ⟨rfl, rfl, rfl⟩)
            have hst := (owns_grown own.row grT (fun g hg e => by cases hg; exact nr (by simp [blks, e]))).stored (pl * 3 + 1) (.slice a5 (lhs.length + 1) c5)
            have mv := (moved_two (v := .slice (some ⟨o, 0, none⟩) m3 c3) (vs' := vs3.set pl (.slice a5 (lhs.length + 1) c5, .slice aq lqs.length cq)) hp rfl grT hst.2 (fun g hg => by simp [blks, hg]) rfl hf).below own hB1
            rw [← HLX.out] at ownx
            have hRx := heap_lower mv lz hRV
            have BWx := BWV.trans (mv.mono (by omega))
            clear own5 hf hst grT gr5 at5 oy' mv d1 g1
            obtain ⟨⟨x0, x1, x2, x3⟩, ff0, ff1, ff2, ff3⟩ := row4 hRx
            have lrx := lt_of_cell x0
            have OX := hid ownx
            clear ownx
            go_wp2
            exact bodyPost_ret (v := .agg #[.int .i64 0, .bool true, .slice none 0 0, .slice (some ⟨o, 0, none⟩) m3 c3]) (by simp [results, Try.results180, go_sem, x0, x1, x2, x3]) rfl ⟨_, _, _, by rw [HAX.out], by rw [HAX.out]; exact ⟨_, ((((OX.out.setLow hwl _ _).setLow hwl _ _).setLow hwl _ _).setLow hwl _ _).base (by omega)⟩, (BWx.setCell (p := ⟨w.heap.size, 0, none⟩) (Nat.le_refl _) _ |>.setCell (p := ⟨w.heap.size, 1, none⟩) (Nat.le_refl _) _ |>.setCell (p := ⟨w.heap.size, 2, none⟩) (Nat.le_refl _) _ |>.setCell (p := ⟨w.heap.size, 3, none⟩) (Nat.le_refl _) _)⟩
    · by_cases h20 : 20 ≤ lqs.length
      · have HE := hid ((HCF.out (by rw [decide_eq_true (show 0 < lqs.length by omega)]; simp)).trans (Ch.enter_full (l := ⟨r, lhs, lqs⟩) h20))
        have HAX := hid (HXN.out _ _ HE.out)
        have hRx := hRU
        have BWx := BWU
        obtain ⟨⟨x0, x1, x2, x3⟩, ff0, ff1, ff2, ff3⟩ := row4 hRx
        have lrx := lt_of_cell x0
        go_wp2
        exact bodyPost_ret (v := .agg #[.int .i64 2, .bool false, .slice none 0 0, .slice none 0 0]) (by simp [results, Try.results180, go_sem, x0, x1, x2, x3]) rfl ⟨none, 0, 0, by rw [HAX.out], by rw [HAX.out]; exact ⟨[], OwnK.nil _ _ _⟩, (BWx.setCell (p := ⟨w.heap.size, 0, none⟩) (Nat.le_refl _) _ |>.setCell (p := ⟨w.heap.size, 1, none⟩) (Nat.le_refl _) _ |>.setCell (p := ⟨w.heap.size, 2, none⟩) (Nat.le_refl _) _ |>.setCell (p := ⟨w.heap.size, 3, none⟩) (Nat.le_refl _) _)⟩
      · have HE := hid ((HCF.out (by rw [decide_eq_true (show 0 < lqs.length by omega)]; simp)).trans (Ch.enter_end (l := ⟨r, lhs, lqs⟩) h20))
        have HAX := hid (HXO.out _ _ HE.out)
        have HLX := hid (HLS.out _ HE.out)
        simp only at HLX
        go_wp2_with fail
        generalize U0.alloc (.cells #[.int .i64 t, .int .i64 mode] 131) = U at *
        generalize U0.heap.size = bx at *
        have BWV : Below w.heap.size w U.drew := BWU.drew
        have hRV : U.drew.heap[w.heap.size]? = _ := hRU
        have own := ownU.below ((Below.refl _ _).drew : Below U.heap.size U U.drew)
        have hB1 : B1 ≤ U.drew.heap.size := hBU
        replace z0 : U.drew.cell? ⟨bx, 0, none⟩ = _ := z0
        replace z1 : U.drew.cell? ⟨bx, 1, none⟩ = _ := z1
        replace u1 : U.drew.cell? ⟨o, pl * 3 + 1, none⟩ = _ := u1
        replace u2 : U.drew.cell? ⟨o, pl * 3 + 2, none⟩ = _ := u2
        replace o1 := owns_below o1 ((Below.refl _ _).drew : Below U.heap.size U U.drew)
        replace o2 := owns_below o2 ((Below.refl _ _).drew : Below U.heap.size U U.drew)
        replace f1 : U.drew.frozen? ⟨o, pl * 3 + 1, none⟩ = _ := f1
        replace f2 : U.drew.frozen? ⟨o, pl * 3 + 2, none⟩ = _ := f2
        refine wp_region_noPanic ?_
        refine wp_region_held_drew (S := fun W' => W'.cell? ⟨bx, 0, none⟩ = some (.int .i64 t) ∧ W'.cell? ⟨bx, 1, none⟩ = some (.int .i64 mode)) (by kernel_rfl) (⟨z0, z1⟩) (fun hH => ?_)
        generalize U.drew = V at *
        have lo2 : o < V.heap.size := lt_of_cell u1
        have kN : Below V.heap.size V (V.alloc (.cells #[.int .i64 t, .int .i64 mode] 131)) := (Below.refl _ _).alloc (Nat.le_refl _) _
        have kT := kN
        have oN := owns_below o2 kN
        have hC := new_hold V t mode 131
        have hsum : lqs.length + 1 ≤ 4194304 := by omega
        have hb3 : B1 ≤ (V.alloc (.cells #[.int .i64 t, .int .i64 mode] 131)).heap.size := Nat.le_trans hB1 kN.size
        have hbx : (Value.slice aq lqs.length cq).ownBlock ≠ some bx := fun e => HBX.out (List.mem_append.2 (.inr (List.mem_flatMap.2 ⟨_, List.mem_of_getElem? hp, by simp [blks, e]⟩)))
        refine hTake (i := 0) (v := ?_) rfl (by kernel_rfl) (by kernel_rfl) (by kernel_rfl) (by rfl) ?_ hH ?_
        rotate_left
        · intro W hW; (try dsimp only at hW); go_simp <;> with_reducible rfl
        simp only [Act.put, List.setIfInBounds_toArray, List.set_cons_zero, List.set_cons_succ]
        refine hTake (i := 1) (v := ?_) rfl (by kernel_rfl) (by kernel_rfl) (by kernel_rfl) (by rfl) ?_ hH ?_
        rotate_left
        · intro W hW; (try dsimp only at hW); go_simp <;> with_reducible rfl
        simp only [Act.put, List.setIfInBounds_toArray, List.set_cons_zero, List.set_cons_succ]
        refine hTake (i := 2) (v := ?_) rfl (by kernel_rfl) (by kernel_rfl) (by kernel_rfl) (by rfl) ?_ hH ?_
        rotate_left
        · intro W hW; (try dsimp only at hW); go_simp <;> with_reducible rfl
        simp only [Act.put, List.setIfInBounds_toArray, List.set_cons_zero, List.set_cons_succ]
        refine hTake (i := 3) (v := ?_) rfl (by kernel_rfl) (by kernel_rfl) (by kernel_rfl) (by rfl) ?_ hH ?_
        rotate_left
        · intro W hW; (try dsimp only at hW); go_simp <;> with_reducible rfl
        simp only [Act.put, List.setIfInBounds_toArray, List.set_cons_zero, List.set_cons_succ]
        refine hTake (i := 5) (v := ?_) rfl (by kernel_rfl) (by kernel_rfl) (by kernel_rfl) (by rfl) ?_ hH ?_
        rotate_left
        · intro W hW; (try dsimp only at hW); go_simp <;> with_reducible rfl
        simp only [Act.put, List.setIfInBounds_toArray, List.set_cons_zero, List.set_cons_succ]
        refine wpAnyH_ready (rs := [4, 6]) (by kernel_rfl) (by simp) ?_
        refine AllReadyH.cons rfl (fun K hK => ?_) (AllReadyH.cons rfl (fun K hK => ?_) AllReadyH.nil)
        · go_simp
          refine hK.out _ _ hH (fun hH => ?_)
          clear hK K
          refine wpAnyH_ready (rs := [6]) (by kernel_rfl) (by simp) ?_
          refine AllReadyH.cons rfl (fun K hK => ?_) AllReadyH.nil
          go_simp
          refine hK.out _ _ ⟨keep_cell kN hH.1, keep_cell kN hH.2⟩ (fun hH => ?_)
          clear hK K
          refine wpAnyH_ready (rs := [7]) (by kernel_rfl) (by simp) ?_
          refine AllReadyH.cons rfl (fun K hK => ?_) AllReadyH.nil
          refine step_appX Try.underlying127 Try.underlying127 gi0 gz0 gz1 gz2 rfl (by omega) (by omega) (.tmp 141) (.tmp 143) rfl rfl B1 (.slice aq lqs.length cq) lqs.length (hcells lqs) _ 1 1 (hcells [⟨t, mode⟩]) rfl rfl oN hC (hcells_one' _) hsum hb3 ?_
          intro a5 c5 w5 own5 gr5 at5
          have d1 := (grown_cell gr5 (keep_cell kN u2) (fun e => nr (by simp [blks, e])))
          have g1 := (gr5.frozen_far ⟨o, pl * 3 + 2, none⟩ (Nat.lt_of_lt_of_le lo2 kN.size) (by show some o ≠ _; exact fun e => nr (by simp [blks, e.symm]))).trans (((bcell kN).2 o (pl * 3 + 2) lo2).trans f2)
          have lo5 := lt_of_cell d1
          refine hK.out _ _ ⟨grown_cell gr5 hH.1 hbx, grown_cell gr5 hH.2 hbx⟩ (fun hH => ?_)
          clear hK K
          simp only [Act.put, List.setIfInBounds_toArray, List.set_cons_zero, List.set_cons_succ]
          refine hTake (i := 8) (v := ?_) rfl (by kernel_rfl) (by kernel_rfl) (by kernel_rfl) (by rfl) ?_ hH ?_
          rotate_left
          · intro W hW; (try dsimp only at hW); go_simp <;> with_reducible rfl
          simp only [Act.put, List.setIfInBounds_toArray, List.set_cons_zero, List.set_cons_succ]
          refine hTake (i := 9) (v := ?_) rfl (by kernel_rfl) (by kernel_rfl) (by kernel_rfl) (by rfl) ?_ hH ?_
          rotate_left
          · intro W hW; (try dsimp only at hW); go_simp <;> with_reducible rfl
          simp only [Act.put, List.setIfInBounds_toArray, List.set_cons_zero, List.set_cons_succ]
          refine wpAnyH_ready (rs := [10]) (by kernel_rfl) (by simp) ?_
          refine AllReadyH.cons rfl (fun K hK => ?_) AllReadyH.nil
          go_simp
          refine hK.out _ _ (by first | (go_simp; done) | exact ⟨by rw [World.cell?_setCell_other _ _ _ _ (by simp; omega)]; exact hH.1, by rw [World.cell?_setCell_other _ _ _ _ (by simp; omega)]; exact hH.2⟩) (fun hH => ?_)
          clear hK K
          refine wpAnyH_done (by kernel_rfl) ?_ _
          refine NoPanic.normal ?_
          rw [← hcells_append] at own5
          have grT : V.grownBy w5 (Value.slice aq lqs.length cq).ownBlock := ⟨gr5.os.trans kT.os, gr5.tape.trans kT.tape, gr5.output.trans kT.output, Nat.le_trans kT.size gr5.size, fun q hq hne => (gr5.block q (Nat.lt_of_lt_of_le hq kT.size) hne).trans (kT.block q hq)⟩
          have hf : ∀ g ∈ blks (.slice ah lhs.length ch, .slice a5 (lqs.length + 1) c5), g ∈ blks (.slice ah lhs.length ch, .slice aq lqs.length cq) ∨ V.heap.size ≤ g := by
            intro g hg
            simp only [blks, List.mem_append, Option.mem_toList] at hg ⊢
            rcases hg with hg | hg
            · exact .inl (.inl hg)
            · rcases at5 g hg with h1 | h1
              · exact .inl (.inr h1)
              · exact .inr (Nat.le_trans kT.size h1)
          have oy' := owns_grown o1 grT (fun g hg e => ne g hg e)
          have ownx := own.swap (j := 2) (z := .slice a5 (lqs.length + 1) c5) hp grT (fun g hg => by simp [blks, hg]) (l := ⟨r, lhs, lqs ++ [⟨t, mode⟩]⟩) hr0.out.symm oy' (by simp only [List.length_append, List.length_cons, List.length_nil]; exact own5) (fun g h1 h2 => by
            rcases at5 g h2 with h3 | h3
            · exact ne g h1 h3
            · exact absurd (owns_lt o1 g h1).2 (Nat.not_lt_of_le (Nat.le_trans kT.size h3))) hf (.inr ⟨rfl, rfl, rfl⟩)
          have hst := (owns_grown own.row grT (fun g hg e => by cases hg; exact nr (by simp [blks, e]))).stored (pl * 3 + 2) (.slice a5 (lqs.length + 1) c5)
          have mv := (moved_two (v := .slice (some ⟨o, 0, none⟩) m3 c3) (vs' := vs3.set pl (.slice ah lhs.length ch, .slice a5 (lqs.length + 1) c5)) hp rfl grT hst.2 (fun g hg => by simp [blks, hg]) rfl hf).below own hB1
          rw [← HLX.out] at ownx
          have hRx := heap_lower mv lz hRV
          have BWx := BWV.trans (mv.mono (by omega))
          clear own5 hf hst grT gr5 at5 oy' mv d1 g1
          obtain ⟨⟨x0, x1, x2, x3⟩, ff0, ff1, ff2, ff3⟩ := row4 hRx
          have lrx := lt_of_cell x0
          have OX := hid ownx
          clear ownx
          go_wp2
          exact bodyPost_ret (v := .agg #[.int .i64 0, .bool false, .slice none 0 0, .slice (some ⟨o, 0, none⟩) m3 c3]) (by simp [results, Try.results180, go_sem, x0, x1, x2, x3]) rfl ⟨_, _, _, by rw [HAX.out], by rw [HAX.out]; exact ⟨_, ((((OX.out.setLow hwl _ _).setLow hwl _ _).setLow hwl _ _).setLow hwl _ _).base (by omega)⟩, (BWx.setCell (p := ⟨w.heap.size, 0, none⟩) (Nat.le_refl _) _ |>.setCell (p := ⟨w.heap.size, 1, none⟩) (Nat.le_refl _) _ |>.setCell (p := ⟨w.heap.size, 2, none⟩) (Nat.le_refl _) _ |>.setCell (p := ⟨w.heap.size, 3, none⟩) (Nat.le_refl _) _)⟩
        · go_simp
          refine hK.out _ _ ⟨keep_cell kN hH.1, keep_cell kN hH.2⟩ (fun hH => ?_)
          clear hK K
          refine wpAnyH_ready (rs := [4]) (by kernel_rfl) (by simp) ?_
          refine AllReadyH.cons rfl (fun K hK => ?_) AllReadyH.nil
          have e1 := keep_cell kN u2
          go_simp
          refine hK.out _ _ hH (fun hH => ?_)
          clear hK K
          refine wpAnyH_ready (rs := [7]) (by kernel_rfl) (by simp) ?_
          refine AllReadyH.cons rfl (fun K hK => ?_) AllReadyH.nil
          refine step_appX Try.underlying127 Try.underlying127 gi0 gz0 gz1 gz2 rfl (by omega) (by omega) (.tmp 141) (.tmp 143) rfl rfl B1 (.slice aq lqs.length cq) lqs.length (hcells lqs) _ 1 1 (hcells [⟨t, mode⟩]) rfl rfl oN hC (hcells_one' _) hsum hb3 ?_
          intro a5 c5 w5 own5 gr5 at5
          have d1 := (grown_cell gr5 (keep_cell kN u2) (fun e => nr (by simp [blks, e])))
          have g1 := (gr5.frozen_far ⟨o, pl * 3 + 2, none⟩ (Nat.lt_of_lt_of_le lo2 kN.size) (by show some o ≠ _; exact fun e => nr (by simp [blks, e.symm]))).trans (((bcell kN).2 o (pl * 3 + 2) lo2).trans f2)
          have lo5 := lt_of_cell d1
          refine hK.out _ _ ⟨grown_cell gr5 hH.1 hbx, grown_cell gr5 hH.2 hbx⟩ (fun hH => ?_)
          clear hK K
          simp only [Act.put, List.setIfInBounds_toArray, List.set_cons_zero, List.set_cons_succ]
          refine hTake (i := 8) (v := ?_) rfl (by kernel_rfl) (by kernel_rfl) (by kernel_rfl) (by rfl) ?_ hH ?_
          rotate_left
          · intro W hW; (try dsimp only at hW); go_simp <;> with_reducible rfl
          simp only [Act.put, List.setIfInBounds_toArray, List.set_cons_zero, List.set_cons_succ]
          refine hTake (i := 9) (v := ?_) rfl (by kernel_rfl) (by kernel_rfl) (by kernel_rfl) (by rfl) ?_ hH ?_
          rotate_left
          · intro W hW; (try dsimp only at hW); go_simp <;> with_reducible rfl
          simp only [Act.put, List.setIfInBounds_toArray, List.set_cons_zero, List.set_cons_succ]
          refine wpAnyH_ready (rs := [10]) (by kernel_rfl) (by simp) ?_
          refine AllReadyH.cons rfl (fun K hK => ?_) AllReadyH.nil
          go_simp
          refine hK.out _ _ (by first | (go_simp; done) | exact ⟨by rw [World.cell?_setCell_other _ _ _ _ (by simp; omega)]; exact hH.1, by rw [World.cell?_setCell_other _ _ _ _ (by simp; omega)]; exact hH.2⟩) (fun hH => ?_)
          clear hK K
          refine wpAnyH_done (by kernel_rfl) ?_ _
          refine NoPanic.normal ?_
          rw [← hcells_append] at own5
          have grT : V.grownBy w5 (Value.slice aq lqs.length cq).ownBlock := ⟨gr5.os.trans kT.os, gr5.tape.trans kT.tape, gr5.output.trans kT.output, Nat.le_trans kT.size gr5.size, fun q hq hne => (gr5.block q (Nat.lt_of_lt_of_le hq kT.size) hne).trans (kT.block q hq)⟩
          have hf : ∀ g ∈ blks (.slice ah lhs.length ch, .slice a5 (lqs.length + 1) c5), g ∈ blks (.slice ah lhs.length ch, .slice aq lqs.length cq) ∨ V.heap.size ≤ g := by
            intro g hg
            simp only [blks, List.mem_append, Option.mem_toList] at hg ⊢
            rcases hg with hg | hg
            · exact .inl (.inl hg)
            · rcases at5 g hg with h1 | h1
              · exact .inl (.inr h1)
              · exact .inr (Nat.le_trans kT.size h1)
          have oy' := owns_grown o1 grT (fun g hg e => ne g hg e)
          have ownx := own.swap (j := 2) (z := .slice a5 (lqs.length + 1) c5) hp grT (fun g hg => by simp [blks, hg]) (l := ⟨r, lhs, lqs ++ [⟨t, mode⟩]⟩) hr0.out.symm oy' (by simp only [List.length_append, List.length_cons, List.length_nil]; exact own5) (fun g h1 h2 => by
            rcases at5 g h2 with h3 | h3
            · exact ne g h1 h3
            · exact absurd (owns_lt o1 g h1).2 (Nat.not_lt_of_le (Nat.le_trans kT.size h3))) hf (.inr ⟨rfl, rfl, rfl⟩)
          have hst := (owns_grown own.row grT (fun g hg e => by cases hg; exact nr (by simp [blks, e]))).stored (pl * 3 + 2) (.slice a5 (lqs.length + 1) c5)
          have mv := (moved_two (v := .slice (some ⟨o, 0, none⟩) m3 c3) (vs' := vs3.set pl (.slice ah lhs.length ch, .slice a5 (lqs.length + 1) c5)) hp rfl grT hst.2 (fun g hg => by simp [blks, hg]) rfl hf).below own hB1
          rw [← HLX.out] at ownx
          have hRx := heap_lower mv lz hRV
          have BWx := BWV.trans (mv.mono (by omega))
          clear own5 hf hst grT gr5 at5 oy' mv d1 g1
          obtain ⟨⟨x0, x1, x2, x3⟩, ff0, ff1, ff2, ff3⟩ := row4 hRx
          have lrx := lt_of_cell x0
          have OX := hid ownx
          clear ownx
          go_wp2
          exact bodyPost_ret (v := .agg #[.int .i64 0, .bool false, .slice none 0 0, .slice (some ⟨o, 0, none⟩) m3 c3]) (by simp [results, Try.results180, go_sem, x0, x1, x2, x3]) rfl ⟨_, _, _, by rw [HAX.out], by rw [HAX.out]; exact ⟨_, ((((OX.out.setLow hwl _ _).setLow hwl _ _).setLow hwl _ _).setLow hwl _ _).base (by omega)⟩, (BWx.setCell (p := ⟨w.heap.size, 0, none⟩) (Nat.le_refl _) _ |>.setCell (p := ⟨w.heap.size, 1, none⟩) (Nat.le_refl _) _ |>.setCell (p := ⟨w.heap.size, 2, none⟩) (Nat.le_refl _) _ |>.setCell (p := ⟨w.heap.size, 3, none⟩) (Nat.le_refl _) _)⟩
  · have HHM := hid (Ch.modeH_names HNM.out t).1
    have HN0 : (Ch.modeH lhs t == 0) = false := by have := (Ch.modeH_names HNM.out t).2; rw [he] at this; simpa using this
    have HCV := hid (Ch.ask_cov (l := ⟨r, lhs, lqs⟩) (t := t) (m := mode))
    have HCN := hid (fun hc h3 => Ch.ask_conv (l := ⟨r, lhs, lqs⟩) (t := t) (m := mode) hc (by simp only; rw [HN0]; rfl) h3)
    have HCP := hid (fun hc h3 => Ch.ask_put (l := ⟨r, lhs, lqs⟩) (t := t) (m := mode) hc (by simp only; rw [HN0]; rfl) h3 (by simp only; rw [he]; rfl))
    have HTB : Hid (Ch.tab Ch.covT (Ch.modeH lhs t) mode = Ch.covers (Ch.modeH lhs t) mode) := by show _ = _; unfold Ch.covers; rw [HHM.out, HM.out]; rfl
    have HJI := hid (Ch.join_isM HHM.out HM.out)
    have HPY := hid (Ch.putH_yes (h := ⟨t, Ch.join (Ch.modeH lhs t) mode⟩) he HAT)
    have HJM := hid hjm.symm
    have HJT := hid hjt
    clear he hjm hjt HN0
    simp only at HCV HCN HCP
    generalize Ch.modeH lhs t = held at *
    obtain ⟨jm, HJN⟩ : ∃ jm, Hid (Ch.join held mode = jm) := ⟨_, rfl⟩
    rw [HJN.out] at HCN HCP HPY HJI
    go_enter Try.func180, Try.ntmps180
    go_wp2_with fail
    refine (l6Copy_any a n cap ls _ (h.below (kA _)) hs).mono ?_
    rintro e w2 ⟨o0, c2, rfl, ⟨vs2, own2⟩, b2⟩
    have hR2 := heap_below b2 (heap_alloc_new w _)
    have BW2 := below_box b2
    have lz0 : w.heap.size < (w.alloc (.cells #[.int .i64 0, .bool false, .slice none 0 0, .slice none 0 0] 213)).heap.size := by rw [World.size_alloc]; omega
    have hB2 := b2.size
    generalize (w.alloc (.cells #[.int .i64 0, .bool false, .slice none 0 0, .slice none 0 0] 213)).heap.size = B1 at *
    clear b2
    go_wp2_with fail
    refine (l6Place_any B1 o0 n c2 res ls vs2 _ own2 hn hB2).mono ?_
    rintro e w3 ⟨a3, m3, c3, rfl, ⟨vs3, own3⟩, b3⟩
    have hRU := heap_lower b3 lz0 hR2
    have BWU := BW2.trans (b3.mono (by omega))
    have hBU : B1 ≤ w3.heap.size := Nat.le_trans hB2 b3.size
    have hwl := lz0
    have lz := lz0
    have hk3 : Ch.placeR res ls < m3 := by have h1 := own3.len; have := HPL.out; omega
    obtain ⟨o, rfl⟩ := own3.rowAt hk3
    clear own2 b3 hB2 hR2 BW2
    obtain ⟨ah, ch, aq, cq, hp, c0, u1, u2, f1, f2, o1, o2, ne, nr, ob1, ob2⟩ := own3.one hk3
    have hr0 : Hid ((Ch.lkAt (Ch.withL res ls) (Ch.placeR res ls)).r = r) := by show _ = _; rw [HLK.out]
    rw [HLK.out] at hp c0 u1 u2 o1 o2 ne nr
    simp only at hp c0 u1 u2 o1 o2 ne nr
    have h3 := owns_cells o1
    have HLS : Hid (∀ x, Ch.askOne ⟨r, lhs, lqs⟩ t mode = x → Ch.askLs ls t res mode = (Ch.withL res ls).set (Ch.placeR res ls) x.2.2) := fun x hx => by show (Ch.withL res ls).set _ (Ch.askOne (Ch.lkAt (Ch.withL res ls) (Ch.placeR res ls)) t mode).2.2 = _; rw [HLK.out, hx]
    have HSM := hid (Ch.lk_same (Ch.withL res ls) (Ch.placeR res ls))
    rw [HLK.out] at HSM
    generalize Ch.placeR res ls = pl at *
    have ownU := own3
    clear own3
    generalize w3 = U0 at *
    obtain ⟨xb, xo, hax, q0, q1⟩ := h3.hold hj
    obtain ⟨xb', rfl⟩ : ∃ xb, ah = some ⟨xb, 0, none⟩ := by
      rcases o1.2 with ⟨hv, h0⟩ | ⟨g, cp, cur, hv, _⟩
      · omega
      · simp only [Value.slice.injEq, true_and] at hv
        exact ⟨g, hv.1⟩
    simp only [Option.some.injEq, Addr.mk.injEq, and_true] at hax
    obtain ⟨rfl, rfl⟩ := hax
    rw [Nat.zero_add] at q0 q1
    rw [HJM.out] at q1
    have hxb := owns_lt o1 xb' rfl
    have lxb := lt_of_cell q1
    have lo0 := lt_of_cell u1
    have hxw : ¬ xb' = w.heap.size := by omega
    have how : ¬ o = w.heap.size := by omega
    have hxo : ¬ xb' = o := fun e => nr (by subst e; simp [blks, Value.ownBlock])
    have HAT := hid HAT
    go_wp2_with fail
    refine (l6At_any (some ⟨xb', 0, none⟩) lhs.length ch t lhs _ h3 hszh).mono ?_
    rintro e w4 ⟨rfl, hw4⟩
    obtain rfl : U0 = w4 := hw4.symm
    rw [HAT.out]
    cases hc : Ch.covers held mode
    · rw [hc] at HTB
      go_wp2_with fail
      refine (l5Cov_any held mode _ HHM.out HM.out).mono ?_
      rintro e w5 ⟨rfl, hw5⟩
      obtain rfl : U0 = w5 := hw5.symm
      rw [HTB.out]
      go_wp2_with fail
      refine (l5Join_any held mode _ HHM.out HM.out).mono ?_
      rintro e w5 ⟨rfl, hw5⟩
      obtain rfl : U0 = w5 := hw5.symm
      rw [HJN.out]
      cases hft : Ch.fitsH lhs t jm
      · by_cases h20 : 20 ≤ lqs.length
        · have HE := hid ((HCN.out hc hft).trans (Ch.enter_full (l := ⟨r, lhs, lqs⟩) h20))
          have HAX := hid (HXN.out _ _ HE.out)
          go_wp2_with fail
          refine (l6Fits_any (some ⟨xb', 0, none⟩) lhs.length ch t jm lhs _ h3 hszh HNM.out HJI.out).mono ?_
          rintro e w5 ⟨rfl, hw5⟩
          obtain rfl : U0 = w5 := hw5.symm
          rw [hft]
          have hRx := hRU
          have BWx := BWU
          obtain ⟨⟨x0, x1, x2, x3⟩, ff0, ff1, ff2, ff3⟩ := row4 hRx
          have lrx := lt_of_cell x0
          go_wp2
          exact bodyPost_ret (v := .agg #[.int .i64 2, .bool false, .slice none 0 0, .slice none 0 0]) (by simp [results, Try.results180, go_sem, x0, x1, x2, x3]) rfl ⟨none, 0, 0, by rw [HAX.out], by rw [HAX.out]; exact ⟨[], OwnK.nil _ _ _⟩, (BWx.setCell (p := ⟨w.heap.size, 0, none⟩) (Nat.le_refl _) _ |>.setCell (p := ⟨w.heap.size, 1, none⟩) (Nat.le_refl _) _ |>.setCell (p := ⟨w.heap.size, 2, none⟩) (Nat.le_refl _) _ |>.setCell (p := ⟨w.heap.size, 3, none⟩) (Nat.le_refl _) _)⟩
        · have HE := hid ((HCN.out hc hft).trans (Ch.enter_room (l := ⟨r, lhs, lqs⟩) h20))
          have HAX := hid (HXO.out _ _ HE.out)
          have HLX := hid (HLS.out _ HE.out)
          simp only at HLX
          go_wp2_with fail
          refine (l6Fits_any (some ⟨xb', 0, none⟩) lhs.length ch t jm lhs _ h3 hszh HNM.out HJI.out).mono ?_
          rintro e w5 ⟨rfl, hw5⟩
          obtain rfl : U0 = w5 := hw5.symm
          rw [hft]
          go_wp2_with fail
          refine (l6Behind_any t jm B1 o pl (some ⟨xb', 0, none⟩) lhs.length ch aq lqs.length cq lhs lqs _ u1 u2 h3 o2 hszh hszq).mono ?_
          rintro e w7 ⟨a7, c7, rfl, own7, b7⟩
          have d2 := keep_cell b7 u2
          have g2 := ((bcell b7).2 o (pl * 3 + 2) ob2).trans f2
          have lo7 := lt_of_cell d2
          have hlen : (lqs.take (Ch.convH lhs lqs) ++ ([⟨t, jm⟩] : List Ch.Hold) ++ lqs.drop (Ch.convH lhs lqs)).length = lqs.length + 1 := by have := Ch.conv_le lhs lqs; simp; omega
          have hf : ∀ g ∈ blks (.slice (some ⟨xb', 0, none⟩) lhs.length ch, .slice a7 (lqs.length + 1) c7), g ∈ blks (.slice (some ⟨xb', 0, none⟩) lhs.length ch, .slice aq lqs.length cq) ∨ U0.heap.size ≤ g := by
            intro g hg
            simp only [blks, List.mem_append, Option.mem_toList] at hg ⊢
            rcases hg with hg | hg
            · exact .inl (.inl hg)
            · exact .inr (owns_lt own7 g hg).1
          have ownx := ownU.swap (j := 2) (z := .slice a7 (lqs.length + 1) c7) hp (below_grown b7 none) (fun g hg => by cases hg) (l := ⟨r, lhs, lqs.take (Ch.convH lhs lqs) ++ [⟨t, jm⟩] ++ lqs.drop (Ch.convH lhs lqs)⟩) hr0.out.symm (owns_below o1 b7) (by simp only [hlen]; exact owns_base own7 hBU) (fun g h1 h2 => by have := (owns_lt o1 g h1).2; have := (owns_lt own7 g h2).1; omega) hf (.inr ⟨rfl, rfl, rfl⟩)
          rw [← HLX.out] at ownx
          have hst := (ownU.below b7).row.stored (pl * 3 + 2) (.slice a7 (lqs.length + 1) c7)
          have mv := ((moved_grown (v := .slice (some ⟨o, 0, none⟩) m3 c3) (vs' := vs3.set pl (.slice (some ⟨xb', 0, none⟩) lhs.length ch, .slice a7 (lqs.length + 1) c7)) hp rfl (gr_trans (below_grown b7 (some o)) hst.2) (fun g hg => by cases hg; simp [Value.ownBlock]) hf).below ownU hBU)
          have hRx := heap_lower mv lz hRU
          have BWx := BWU.trans (mv.mono (by omega))
          clear own7 hf hst mv hlen
          obtain ⟨⟨x0, x1, x2, x3⟩, ff0, ff1, ff2, ff3⟩ := row4 hRx
          have lrx := lt_of_cell x0
          have OX := hid ownx
          clear ownx
          go_wp2
          exact bodyPost_ret (v := .agg #[.int .i64 0, .bool false, .slice none 0 0, .slice (some ⟨o, 0, none⟩) m3 c3]) (by simp [results, Try.results180, go_sem, x0, x1, x2, x3]) rfl ⟨_, _, _, by rw [HAX.out], by rw [HAX.out]; exact ⟨_, ((((OX.out.setLow hwl _ _).setLow hwl _ _).setLow hwl _ _).setLow hwl _ _).base (by omega)⟩, (BWx.setCell (p := ⟨w.heap.size, 0, none⟩) (Nat.le_refl _) _ |>.setCell (p := ⟨w.heap.size, 1, none⟩) (Nat.le_refl _) _ |>.setCell (p := ⟨w.heap.size, 2, none⟩) (Nat.le_refl _) _ |>.setCell (p := ⟨w.heap.size, 3, none⟩) (Nat.le_refl _) _)⟩
      · have HE := hid ((HCP.out hc hft).trans (by rw [HPY.out]))
        have HAX := hid (HXO.out _ _ HE.out)
        have HLX := hid (HLS.out _ HE.out)
        simp only at HLX
        go_wp2_with fail
        refine (l6Fits_any (some ⟨xb', 0, none⟩) lhs.length ch t jm lhs _ h3 hszh HNM.out HJI.out).mono ?_
        rintro e w5 ⟨rfl, hw5⟩
        obtain rfl : U0 = w5 := hw5.symm
        rw [hft]
        have hd1 := o1.frozenAt (j * 2 + 1)
        have hst := o1.stored (j * 2 + 1) (.int .i64 jm)
        rw [hcells_setm lhs j ⟨t, jm⟩ hj HJT.out] at hst
        have ownx := ownU.turn hp hst.2 (fun g hg => by cases hg; simp [blks, Value.ownBlock]) ⟨r, lhs.set j ⟨t, jm⟩, lqs⟩ hr0.out.symm (by simp only [List.length_set]; exact hst.1) (owns_grown o2 hst.2 (fun g hg e => by cases e; exact ne xb' rfl hg))
        rw [← HLX.out] at ownx
        have mv : Below B1 U0 (U0.setCell ⟨xb', j * 2 + 1, none⟩ (.int .i64 jm)) := ((Below.refl B1 U0).mono (Nat.le_refl _)).grown hst.2 hBU (fun g hg => by cases hg; exact hxb.1)
        have hRx := heap_lower mv lz hRU
        have BWx := BWU.trans (mv.mono (by omega))
        clear hst mv
        obtain ⟨⟨x0, x1, x2, x3⟩, ff0, ff1, ff2, ff3⟩ := row4 hRx
        have lrx := lt_of_cell x0
        have OX := hid ownx
        clear ownx
        go_wp2
        exact bodyPost_ret (v := .agg #[.int .i64 0, .bool true, .slice none 0 0, .slice (some ⟨o, 0, none⟩) m3 c3]) (by simp [results, Try.results180, go_sem, x0, x1, x2, x3]) rfl ⟨_, _, _, by rw [HAX.out], by rw [HAX.out]; exact ⟨_, ((((OX.out.setLow hwl _ _).setLow hwl _ _).setLow hwl _ _).setLow hwl _ _).base (by omega)⟩, (BWx.setCell (p := ⟨w.heap.size, 0, none⟩) (Nat.le_refl _) _ |>.setCell (p := ⟨w.heap.size, 1, none⟩) (Nat.le_refl _) _ |>.setCell (p := ⟨w.heap.size, 2, none⟩) (Nat.le_refl _) _ |>.setCell (p := ⟨w.heap.size, 3, none⟩) (Nat.le_refl _) _)⟩
    · rw [hc] at HTB
      have HE := hid (HCV.out hc)
      have HAX := hid (HXO.out _ _ HE.out)
      have HLX := hid (HLS.out _ HE.out)
      simp only at HLX
      rw [HSM.out] at HLX
      go_wp2_with fail
      refine (l5Cov_any held mode _ HHM.out HM.out).mono ?_
      rintro e w5 ⟨rfl, hw5⟩
      obtain rfl : U0 = w5 := hw5.symm
      rw [HTB.out]
      have ownx := ownU
      rw [← HLX.out] at ownx
      have hRx := hRU
      have BWx := BWU
      obtain ⟨⟨x0, x1, x2, x3⟩, ff0, ff1, ff2, ff3⟩ := row4 hRx
      have lrx := lt_of_cell x0
      have OX := hid ownx
      clear ownx
      go_wp2
      exact bodyPost_ret (v := .agg #[.int .i64 0, .bool true, .slice none 0 0, .slice (some ⟨o, 0, none⟩) m3 c3]) (by simp [results, Try.results180, go_sem, x0, x1, x2, x3]) rfl ⟨_, _, _, by rw [HAX.out], by rw [HAX.out]; exact ⟨_, ((((OX.out.setLow hwl _ _).setLow hwl _ _).setLow hwl _ _).setLow hwl _ _).base (by omega)⟩, (BWx.setCell (p := ⟨w.heap.size, 0, none⟩) (Nat.le_refl _) _ |>.setCell (p := ⟨w.heap.size, 1, none⟩) (Nat.le_refl _) _ |>.setCell (p := ⟨w.heap.size, 2, none⟩) (Nat.le_refl _) _ |>.setCell (p := ⟨w.heap.size, 3, none⟩) (Nat.le_refl _) _)⟩

end Go.Proofs.Ytjagobcogkdfhaa

