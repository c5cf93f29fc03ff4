
/- The model's l6Free and FreeLocks. -/
import Derived.Test.YtjagobcogkdfhaaLkJ
namespace Go.Proofs.Ytjagobcogkdfhaa
open Go.RowKit

theorem aBlk_nodup (x : Value) : (aBlk x).Nodup := by
  unfold aBlk
  split <;> simp

theorem grown_set (w : World) (b i : Nat) (u : Value) : w.grownBy (w.setCell ⟨b, i, none⟩ u) (some b) := by
  have h0 := (Below.refl 0 w).setCell (p := ⟨b, i, none⟩) (Nat.zero_le _) u
  refine ⟨h0.os, h0.tape, h0.output, h0.size, fun k hk hne => Below.heap_setCell _ _ _ _ ?_⟩
  intro e; exact hne (by rw [e])
theorem hcells_setm (hs : List Ch.Hold) (k : Nat) (r : Ch.Hold) (h : k < hs.length) (ht : (hs.getD k Ch.Hold.zero).t = r.t) : (hcells hs).set (k * 2 + 1) (.int .i64 r.m) = hcells (hs.set k r) := by
  rw [← hcells_set hs k r h, ← ht, show (hcells hs).set (k * 2) (.int .i64 (hs.getD k Ch.Hold.zero).t) = hcells hs from set_same (hcells_at hs k h).1]
theorem ownsSet3 {w : World} {base : Nat} {e : TypeId} {size : Nat} {v : Value} {n : Nat} {xs : List Value} {P : Nat} (h : w.ownsRow base e size v n xs) (hp : ∀ g, v.ownBlock = some g → g ≠ P) (u0 u1 u2 : Value) : (((w.setCell ⟨P, 0, none⟩ u0).setCell ⟨P, 1, none⟩ u1).setCell ⟨P, 2, none⟩ u2).ownsRow base e size v n xs := by
  have st : ∀ (W : World) (i : Nat) (u : Value), W.ownsRow base e size v n xs → (W.setCell ⟨P, i, none⟩ u).ownsRow base e size v n xs := by
    intro W i u hh
    refine ⟨hh.1, ?_⟩
    rcases hh.2 with h' | ⟨g, cap, cur, hv, hb, hg, h1, h2, h3, h4⟩
    · exact .inl h'
    · refine .inr ⟨g, cap, cur, hv, hb, ?_, h1, h2, h3, h4⟩
      exact (Below.heap_setCell _ _ _ _ (by show g ≠ P; exact hp g (by rw [hv]; rfl))).trans hg
  exact st _ _ _ (st _ _ _ (st _ _ _ h))

set_option linter.unusedSimpArgs false in
set_option maxRecDepth 20000 in
set_option maxHeartbeats 8000000 in
theorem l6FreeK_any (a : Option Addr) (n cap : Nat) (t : Int) (ls : List Ch.Lock) (w : World) (h : LkAt w a n ls) (hfew : n ≤ 101) (hg : ∀ i, i < n → (Ch.lkAt ls i).hs.length ≤ 20 ∧ (Ch.lkAt ls i).qs.length ≤ 20 ∧ Ch.namesH (Ch.lkAt ls i).hs = true ∧ Ch.namesH (Ch.lkAt ls i).qs = true) :
    Calls Try.prog 178 #[.slice a n cap, .int .i64 t] w fun e w' => ∃ a1 m1 c1 a2 m2 c2, e = .returned (.tuple #[.slice a2 m2 c2, .slice a1 m1 c1]) ∧ w'.ownsRow w.heap.size 2 1 (.slice a1 m1 c1) m1 (icells (Ch.freeInts ls t)) ∧ m1 ≤ 1048576 ∧ (∃ vs, ReadK w' w.heap.size (.slice a2 m2 c2) m2 ((Ch.freeAll ls t).filter Ch.usedL) vs) ∧ Below w.heap.size w w' := by
  have HL := h.len
  obtain ⟨i0, hi0, hz0, hz1, hz2I⟩ := info_parts Try.info2
  obtain ⟨i1, hi1, hy0, hy1, hy2⟩ := info_parts Try.info129
  obtain ⟨i2, hi2, hx0, hx1', hx2⟩ := info_parts Try.info131
  have HG := hid hg
  clear hg
  have rE := ReadK.empty w w.heap.size (Nat.le_refl _)
  have bE : Below w.heap.size w (w.alloc (.cells #[] 129)) := (Below.refl _ _).alloc (Nat.le_refl _) _
  have oE := empty_own (w.alloc (.cells #[] 129)) w.heap.size 2 1 bE.size
  have bE2 : Below (w.alloc (.cells #[] 129)).heap.size (w.alloc (.cells #[] 129)) ((w.alloc (.cells #[] 129)).alloc (.cells #[] 2)) := (Below.refl _ _).alloc (Nat.le_refl _) _
  rw [show (w.alloc (.cells #[] 129)).heap.size = w.heap.size + 1 by simp] at oE
  go_enter Try.func178, Try.ntmps178
  go_wp2
  go_loopw [6, 7, 8] (fun qo q i wr => ∃ (k mo : Nat) (ao : Option Addr) (co m0 : Nat) (a' : Option Addr) (c' : Nat) (vo : List (Value × Value)), k ≤ n ∧ i = .int .i64 k ∧ qo = .slice ao mo co ∧ q = .slice a' m0 c' ∧ ReadK wr w.heap.size (.slice ao mo co) mo ((Ch.freeAll (ls.take k) t).filter Ch.usedL) vo ∧ mo ≤ k ∧ wr.ownsRow w.heap.size 2 1 (.slice a' m0 c') m0 (icells (Ch.freeInts (ls.take k) t)) ∧ m0 ≤ 20 * k ∧ (∀ g, (Value.slice a' m0 c').ownBlock = some g → g ∉ (Value.slice ao mo co).ownBlock.toList ++ vo.flatMap rblk) ∧ Below w.heap.size w wr) (fun _ _ i _ => n - (intOf i).toNat)
  case atStart => exact ⟨0, 0, _, 0, 0, _, 0, [], Nat.zero_le _, rfl, rfl, rfl, rE.below bE2, Nat.le_refl _, oE, Nat.le_refl _, fun g hg hm => by simp [Value.ownBlock] at hg hm; omega, bE.trans (bE2.mono bE.size)⟩
  case round =>
    clear rE bE oE bE2
    obtain ⟨k, mo, ao, co, m0, a', c', vo, hk, rfl, rfl, rfl, rk, hmo, oi, hm0, hap, hB⟩ := hrel
    by_cases hlt : k < n
    · have hkl : k < ls.length := by have := HL.out; omega
      have HFI := hid (Ch.freeInts_next ls t k hkl)
      have HGK := hid (HG.out k hlt)
      have HAll : Hid (Ch.freeAll (ls.take (k + 1)) t = Ch.freeAll (ls.take k) t ++ [Ch.freeOne (Ch.lkAt ls k) t]) := by
        show _ = _
        unfold Ch.freeAll Ch.lkAt
        rw [Ch.take_snoc ls Ch.Lock.zero k hkl, List.map_append]; rfl
      have HFO : Hid (Ch.freeOne (Ch.lkAt ls k) t = ⟨(Ch.lkAt ls k).r, (Ch.admitL (Ch.withoutH (Ch.lkAt ls k).hs t) (Ch.withoutH (Ch.lkAt ls k).qs t)).1, (Ch.admitL (Ch.withoutH (Ch.lkAt ls k).hs t) (Ch.withoutH (Ch.lkAt ls k).qs t)).2.1⟩) := rfl
      have HFG : Hid (Ch.freeGot (Ch.lkAt ls k) t = (Ch.admitL (Ch.withoutH (Ch.lkAt ls k).hs t) (Ch.withoutH (Ch.lkAt ls k).qs t)).2.2) := rfl
      obtain ⟨b, off, ah, nh, ch, aq, nq, cq, rfl, c0, c1, c2, h3, h4, _, _, _, _⟩ := (h.below hB).lock hlt
      have hH4 := h3.hlen
      have hQ4 := h4.hlen
      have hnh : nh ≤ 1048576 := by have := HGK.out.1; have := hH4.out; omega
      have hnq : nq ≤ 1048576 := by have := HGK.out.2.1; have := hQ4.out; omega
      have hbl := lt_of_cell c0
      generalize Ch.lkAt ls k = l at *
      obtain ⟨r, lhs, lqs⟩ := l
      simp only at c0 h3 h4 HGK HFO HFG
      obtain ⟨outl, HOUT⟩ : ∃ outl, Hid ((Ch.freeAll (ls.take k) t).filter Ch.usedL = outl) := ⟨_, rfl⟩
      rw [HOUT.out] at rk
      generalize Ch.freeInts (ls.take k) t = pre0 at *
      have HN1 := hid (Ch.without_names HGK.out.2.2.1 t)
      have HN2 := hid (Ch.without_names HGK.out.2.2.2 t)
      have hl1 := Nat.le_trans (Ch.without_len lhs t) HGK.out.1
      have hl2 := Nat.le_trans (Ch.without_len lqs t) HGK.out.2.1
      go_wp2_with fail
      go_cut [9] (fun s wx => ∃ P a1 d1 a2 d2, s = .pointer (some ⟨P, 0, none⟩) ∧ wx.heap[P]? = some (.cells #[.int .i64 r, .slice a1 (Ch.withoutH lhs t).length d1, .slice a2 (Ch.withoutH lqs t).length d2] 129 (0, 0)) ∧ wx.ownsRow wr.heap.size 131 2 (.slice a1 (Ch.withoutH lhs t).length d1) (Ch.withoutH lhs t).length (hcells (Ch.withoutH lhs t)) ∧ wx.ownsRow wr.heap.size 131 2 (.slice a2 (Ch.withoutH lqs t).length d2) (Ch.withoutH lqs t).length (hcells (Ch.withoutH lqs t)) ∧ (∀ g, (Value.slice a1 (Ch.withoutH lhs t).length d1).ownBlock = some g → (Value.slice a2 (Ch.withoutH lqs t).length d2).ownBlock ≠ some g) ∧ (∀ g, (Value.slice a1 (Ch.withoutH lhs t).length d1).ownBlock = some g → g ≠ P) ∧ (∀ g, (Value.slice a2 (Ch.withoutH lqs t).length d2).ownBlock = some g → g ≠ P) ∧ wr.heap.size ≤ P ∧ Below wr.heap.size wr wx)
      case first =>
        refine wp_region_noPanic ?_
        refine wp_region_held_drew (S := fun W' => W'.cell? ⟨b, off + k * 3, none⟩ = some (.int .i64 r) ∧ W'.cell? ⟨b, off + k * 3 + 1, none⟩ = some (.slice ah nh ch) ∧ W'.cell? ⟨b, off + k * 3 + 2, none⟩ = some (.slice aq nq cq) ∧ Below wr.heap.size wr W') (by kernel_rfl) (⟨keep_cell (Below.refl wr.heap.size wr).drew c0, keep_cell (Below.refl wr.heap.size wr).drew c1, keep_cell (Below.refl wr.heap.size wr).drew c2, (Below.refl wr.heap.size wr).drew⟩) (fun hH => ?_)
        refine hTake (i := 0) (v := ?_) rfl (by kernel_rfl) (by kernel_rfl) (by kernel_rfl) (by rfl) ?_ hH ?_
        rotate_left
        · intro W hW; (try dsimp only at hW); go_simp <;> with_reducible rfl
        simp only [Act.put, List.setIfInBounds_toArray, List.set_cons_zero, List.set_cons_succ]
        refine hTake (i := 1) (v := ?_) rfl (by kernel_rfl) (by kernel_rfl) (by kernel_rfl) (by rfl) ?_ hH ?_
        rotate_left
        · intro W hW; (try dsimp only at hW); go_simp <;> with_reducible rfl
        simp only [Act.put, List.setIfInBounds_toArray, List.set_cons_zero, List.set_cons_succ]
        refine hTake (i := 2) (v := ?_) rfl (by kernel_rfl) (by kernel_rfl) (by kernel_rfl) (by rfl) ?_ hH ?_
        rotate_left
        · intro W hW; (try dsimp only at hW); go_simp <;> with_reducible rfl
        simp only [Act.put, List.setIfInBounds_toArray, List.set_cons_zero, List.set_cons_succ]
        refine hTake (i := 3) (v := ?_) rfl (by kernel_rfl) (by kernel_rfl) (by kernel_rfl) (by rfl) ?_ hH ?_
        rotate_left
        · intro W hW; (try dsimp only at hW); go_simp <;> with_reducible rfl
        simp only [Act.put, List.setIfInBounds_toArray, List.set_cons_zero, List.set_cons_succ]
        refine hTake (i := 4) (v := ?_) rfl (by kernel_rfl) (by kernel_rfl) (by kernel_rfl) (by rfl) ?_ hH ?_
        rotate_left
        · intro W hW; (try dsimp only at hW); go_simp <;> with_reducible rfl
        simp only [Act.put, List.setIfInBounds_toArray, List.set_cons_zero, List.set_cons_succ]
        refine hTake (i := 5) (v := ?_) rfl (by kernel_rfl) (by kernel_rfl) (by kernel_rfl) (by rfl) ?_ hH ?_
        rotate_left
        · intro W hW; (try dsimp only at hW); go_simp <;> with_reducible rfl
        simp only [Act.put, List.setIfInBounds_toArray, List.set_cons_zero, List.set_cons_succ]
        refine hTake (i := 6) (v := ?_) rfl (by kernel_rfl) (by kernel_rfl) (by kernel_rfl) (by rfl) ?_ hH ?_
        rotate_left
        · intro W hW; (try dsimp only at hW); go_simp <;> with_reducible rfl
        simp only [Act.put, List.setIfInBounds_toArray, List.set_cons_zero, List.set_cons_succ]
        refine hTake (i := 7) (v := ?_) rfl (by kernel_rfl) (by kernel_rfl) (by kernel_rfl) (by rfl) ?_ hH ?_
        rotate_left
        · intro W hW; (try dsimp only at hW); go_simp <;> with_reducible rfl
        simp only [Act.put, List.setIfInBounds_toArray, List.set_cons_zero, List.set_cons_succ]
        refine hTake (i := 8) (v := ?_) rfl (by kernel_rfl) (by kernel_rfl) (by kernel_rfl) (by rfl) ?_ hH ?_
        rotate_left
        · intro W hW; (try dsimp only at hW); go_simp <;> with_reducible rfl
        simp only [Act.put, List.setIfInBounds_toArray, List.set_cons_zero, List.set_cons_succ]
        refine hTake (i := 9) (v := ?_) rfl (by kernel_rfl) (by kernel_rfl) (by kernel_rfl) (by rfl) ?_ hH ?_
        rotate_left
        · intro W hW; (try dsimp only at hW); go_simp <;> with_reducible rfl
        simp only [Act.put, List.setIfInBounds_toArray, List.set_cons_zero, List.set_cons_succ]
        refine hTake (i := 10) (v := ?_) rfl (by kernel_rfl) (by kernel_rfl) (by kernel_rfl) (by rfl) ?_ hH ?_
        rotate_left
        · intro W hW; (try dsimp only at hW); go_simp <;> with_reducible rfl
        simp only [Act.put, List.setIfInBounds_toArray, List.set_cons_zero, List.set_cons_succ]
        refine hTake (i := 12) (v := ?_) rfl (by kernel_rfl) (by kernel_rfl) (by kernel_rfl) (by rfl) ?_ hH ?_
        rotate_left
        · intro W hW; (try dsimp only at hW); go_simp <;> with_reducible rfl
        simp only [Act.put, List.setIfInBounds_toArray, List.set_cons_zero, List.set_cons_succ]
        refine hTake (i := 13) (v := ?_) rfl (by kernel_rfl) (by kernel_rfl) (by kernel_rfl) (by rfl) ?_ hH ?_
        rotate_left
        · intro W hW; (try dsimp only at hW); go_simp <;> with_reducible rfl
        simp only [Act.put, List.setIfInBounds_toArray, List.set_cons_zero, List.set_cons_succ]
        refine hTake (i := 14) (v := ?_) rfl (by kernel_rfl) (by kernel_rfl) (by kernel_rfl) (by rfl) ?_ hH ?_
        rotate_left
        · intro W hW; (try dsimp only at hW); go_simp <;> with_reducible rfl
        simp only [Act.put, List.setIfInBounds_toArray, List.set_cons_zero, List.set_cons_succ]
        refine hTake (i := 15) (v := ?_) rfl (by kernel_rfl) (by kernel_rfl) (by kernel_rfl) (by rfl) ?_ hH ?_
        rotate_left
        · intro W hW; (try dsimp only at hW); go_simp <;> with_reducible rfl
        simp only [Act.put, List.setIfInBounds_toArray, List.set_cons_zero, List.set_cons_succ]
        refine hTake (i := 16) (v := ?_) rfl (by kernel_rfl) (by kernel_rfl) (by kernel_rfl) (by rfl) ?_ hH ?_
        rotate_left
        · intro W hW; (try dsimp only at hW); go_simp <;> with_reducible rfl
        simp only [Act.put, List.setIfInBounds_toArray, List.set_cons_zero, List.set_cons_succ]
        refine hTake (i := 17) (v := ?_) rfl (by kernel_rfl) (by kernel_rfl) (by kernel_rfl) (by rfl) ?_ hH ?_
        rotate_left
        · intro W hW; (try dsimp only at hW); go_simp <;> with_reducible rfl
        simp only [Act.put, List.setIfInBounds_toArray, List.set_cons_zero, List.set_cons_succ]
        have bd : Below wr.heap.size wr wr.drew := (Below.refl _ _).drew
        generalize wr.drew = wd at *
        refine wpAnyH_ready (rs := [11, 20]) (by kernel_rfl) (by simp) ?_
        refine AllReadyH.cons rfl (fun K hK => ?_) (AllReadyH.cons rfl (fun K hK => ?_) AllReadyH.nil)
        · go_simp
          refine (l6Without_any ah nh ch t lhs _ (h3.below hH.2.2.2) hnh).mono ?_
          rintro e v1 ⟨a1, d1, rfl, ox, bx⟩
          have zx := bx.size
          have Bc := hH.2.2.2.trans (bx.mono hH.2.2.2.size)
          have hx1 := fun g (hg : (Value.slice a1 (Ch.withoutH lhs t).length d1).ownBlock = some g) => owns_lt ox g hg
          have ox := owns_base ox (base' := wr.heap.size) hH.2.2.2.size
          go_wp2_with fail
          refine hK.out _ _ ⟨keep_cell Bc c0, keep_cell Bc c1, keep_cell Bc c2, Bc⟩ (fun hH => ?_)
          clear hK K
          refine wpAnyH_ready (rs := [18, 20]) (by kernel_rfl) (by simp) ?_
          refine AllReadyH.cons rfl (fun K hK => ?_) (AllReadyH.cons rfl (fun K hK => ?_) AllReadyH.nil)
          · go_simp
            refine (l6Without_any aq nq cq t lqs _ (h4.below hH.2.2.2) hnq).mono ?_
            rintro e v3 ⟨a2, d2, rfl, oy, by'⟩
            have zy := by'.size
            have Bc := hH.2.2.2.trans (by'.mono hH.2.2.2.size)
            have hy1 := fun g (hg : (Value.slice a2 (Ch.withoutH lqs t).length d2).ownBlock = some g) => owns_lt oy g hg
            have hxy : ∀ g, (Value.slice a1 (Ch.withoutH lhs t).length d1).ownBlock = some g → (Value.slice a2 (Ch.withoutH lqs t).length d2).ownBlock ≠ some g := fun g hg e => by have := (owns_lt ox g hg).2; have := (hy1 g e).1; omega
            have oy := owns_base oy (base' := wr.heap.size) hH.2.2.2.size
            have ox := owns_below ox by'
            go_wp2_with fail
            refine hK.out _ _ ⟨keep_cell Bc c0, keep_cell Bc c1, keep_cell Bc c2, Bc⟩ (fun hH => ?_)
            clear hK K
            refine hTake (i := 19) (v := ?_) rfl (by kernel_rfl) (by kernel_rfl) (by kernel_rfl) (by rfl) ?_ hH ?_
            rotate_left
            · intro W hW; (try dsimp only at hW); go_simp <;> with_reducible rfl
            simp only [Act.put, List.setIfInBounds_toArray, List.set_cons_zero, List.set_cons_succ]
            refine wpAnyH_ready (rs := [20]) (by kernel_rfl) (by simp) ?_
            refine AllReadyH.cons rfl (fun K hK => ?_) AllReadyH.nil
            go_simp
            have kN : Below v3.heap.size v3 (v3.alloc (.cells #[.int .i64 0, .slice none 0 0, .slice none 0 0] 129)) := (Below.refl _ _).alloc (Nat.le_refl _) _
            have Bc : Below wr.heap.size wr (v3.alloc (.cells #[.int .i64 0, .slice none 0 0, .slice none 0 0] 129)) := hH.2.2.2.trans (kN.mono hH.2.2.2.size)
            have hPB : wr.heap.size ≤ v3.heap.size := hH.2.2.2.size
            refine hK.out _ _ ⟨keep_cell Bc c0, keep_cell Bc c1, keep_cell Bc c2, Bc⟩ (fun hH => ?_)
            clear hK K
            have hP0 := heap_alloc_new v3 (.cells #[.int .i64 0, .slice none 0 0, .slice none 0 0] 129)
            have hP := hP0
            have hxP : ∀ g, (Value.slice a1 (Ch.withoutH lhs t).length d1).ownBlock = some g → g ≠ v3.heap.size := fun g hg e => by have := (owns_lt ox g hg).2; omega
            have ox := owns_below ox kN
            have hyP : ∀ g, (Value.slice a2 (Ch.withoutH lqs t).length d2).ownBlock = some g → g ≠ v3.heap.size := fun g hg e => by have := (owns_lt oy g hg).2; omega
            have oy := owns_below oy kN
            clear kN Bc
            generalize v3.alloc (.cells #[.int .i64 0, .slice none 0 0, .slice none 0 0] 129) = v5 at *
            obtain ⟨⟨p0, p1, p2⟩, e0, e1, e2⟩ := row3 hP
            have lP := lt_of_cell p0
            have Bf := ((hH.2.2.2.setCell (p := ⟨v3.heap.size, 0, none⟩) hPB (.int .i64 r)).setCell (p := ⟨v3.heap.size, 1, none⟩) hPB (.slice a1 (Ch.withoutH lhs t).length d1)).setCell (p := ⟨v3.heap.size, 2, none⟩) hPB (.slice a2 (Ch.withoutH lqs t).length d2)
            refine wpAnyH_ready (rs := [21]) (by kernel_rfl) (by simp) ?_
            refine AllReadyH.cons rfl (fun K hK => ?_) AllReadyH.nil
            go_simp
            refine hK.out _ _ ⟨keep_cell Bf c0, keep_cell Bf c1, keep_cell Bf c2, Bf⟩ (fun hH => ?_)
            clear hK K
            refine wpAnyH_done (by kernel_rfl) ?_ _
            refine NoPanic.normal ?_
            go_wp2_with fail
            go_meet
            have hPf := Joins.block_setCell (i := 2) (Joins.block_setCell (i := 1) (Joins.block_setCell (i := 0) hP (.int .i64 r)) (.slice a1 (Ch.withoutH lhs t).length d1)) (.slice a2 (Ch.withoutH lqs t).length d2)
            refine ⟨v3.heap.size, a1, d1, a2, d2, rfl, by simpa using hPf, ?_, ?_, hxy, hxP, hyP, hPB, Bf⟩
            · exact ownsSet3 ox hxP _ _ _
            · exact ownsSet3 oy hyP _ _ _
          · go_simp
            have kN : Below v1.heap.size v1 (v1.alloc (.cells #[.int .i64 0, .slice none 0 0, .slice none 0 0] 129)) := (Below.refl _ _).alloc (Nat.le_refl _) _
            have Bc : Below wr.heap.size wr (v1.alloc (.cells #[.int .i64 0, .slice none 0 0, .slice none 0 0] 129)) := hH.2.2.2.trans (kN.mono hH.2.2.2.size)
            have hPB : wr.heap.size ≤ v1.heap.size := hH.2.2.2.size
            refine hK.out _ _ ⟨keep_cell Bc c0, keep_cell Bc c1, keep_cell Bc c2, Bc⟩ (fun hH => ?_)
            clear hK K
            have hP0 := heap_alloc_new v1 (.cells #[.int .i64 0, .slice none 0 0, .slice none 0 0] 129)
            have hP := hP0
            have hxP : ∀ g, (Value.slice a1 (Ch.withoutH lhs t).length d1).ownBlock = some g → g ≠ v1.heap.size := fun g hg e => by have := (owns_lt ox g hg).2; omega
            have ox := owns_below ox kN
            clear kN Bc
            generalize v1.alloc (.cells #[.int .i64 0, .slice none 0 0, .slice none 0 0] 129) = v4 at *
            refine wpAnyH_ready (rs := [18]) (by kernel_rfl) (by simp) ?_
            refine AllReadyH.cons rfl (fun K hK => ?_) AllReadyH.nil
            go_simp
            refine (l6Without_any aq nq cq t lqs _ (h4.below hH.2.2.2) hnq).mono ?_
            rintro e v6 ⟨a2, d2, rfl, oy, by'⟩
            have zy := by'.size
            have Bc := hH.2.2.2.trans (by'.mono hH.2.2.2.size)
            have hy1 := fun g (hg : (Value.slice a2 (Ch.withoutH lqs t).length d2).ownBlock = some g) => owns_lt oy g hg
            have hxy : ∀ g, (Value.slice a1 (Ch.withoutH lhs t).length d1).ownBlock = some g → (Value.slice a2 (Ch.withoutH lqs t).length d2).ownBlock ≠ some g := fun g hg e => by have := (owns_lt ox g hg).2; have := (hy1 g e).1; omega
            have oy := owns_base oy (base' := wr.heap.size) hH.2.2.2.size
            have ox := owns_below ox by'
            have hyP : ∀ g, (Value.slice a2 (Ch.withoutH lqs t).length d2).ownBlock = some g → g ≠ v1.heap.size := fun g hg e => by have := (hy1 g hg).1; have := (Array.getElem?_eq_some_iff.1 hP).1; omega
            have hP := heap_below by' hP
            go_wp2_with fail
            refine hK.out _ _ ⟨keep_cell Bc c0, keep_cell Bc c1, keep_cell Bc c2, Bc⟩ (fun hH => ?_)
            clear hK K
            refine hTake (i := 19) (v := ?_) rfl (by kernel_rfl) (by kernel_rfl) (by kernel_rfl) (by rfl) ?_ hH ?_
            rotate_left
            · intro W hW; (try dsimp only at hW); go_simp <;> with_reducible rfl
            simp only [Act.put, List.setIfInBounds_toArray, List.set_cons_zero, List.set_cons_succ]
            obtain ⟨⟨p0, p1, p2⟩, e0, e1, e2⟩ := row3 hP
            have lP := lt_of_cell p0
            have Bf := ((hH.2.2.2.setCell (p := ⟨v1.heap.size, 0, none⟩) hPB (.int .i64 r)).setCell (p := ⟨v1.heap.size, 1, none⟩) hPB (.slice a1 (Ch.withoutH lhs t).length d1)).setCell (p := ⟨v1.heap.size, 2, none⟩) hPB (.slice a2 (Ch.withoutH lqs t).length d2)
            refine wpAnyH_ready (rs := [21]) (by kernel_rfl) (by simp) ?_
            refine AllReadyH.cons rfl (fun K hK => ?_) AllReadyH.nil
            go_simp
            refine hK.out _ _ ⟨keep_cell Bf c0, keep_cell Bf c1, keep_cell Bf c2, Bf⟩ (fun hH => ?_)
            clear hK K
            refine wpAnyH_done (by kernel_rfl) ?_ _
            refine NoPanic.normal ?_
            go_wp2_with fail
            go_meet
            have hPf := Joins.block_setCell (i := 2) (Joins.block_setCell (i := 1) (Joins.block_setCell (i := 0) hP (.int .i64 r)) (.slice a1 (Ch.withoutH lhs t).length d1)) (.slice a2 (Ch.withoutH lqs t).length d2)
            refine ⟨v1.heap.size, a1, d1, a2, d2, rfl, by simpa using hPf, ?_, ?_, hxy, hxP, hyP, hPB, Bf⟩
            · exact ownsSet3 ox hxP _ _ _
            · exact ownsSet3 oy hyP _ _ _
        · go_simp
          have kN : Below wd.heap.size wd (wd.alloc (.cells #[.int .i64 0, .slice none 0 0, .slice none 0 0] 129)) := (Below.refl _ _).alloc (Nat.le_refl _) _
          have Bc : Below wr.heap.size wr (wd.alloc (.cells #[.int .i64 0, .slice none 0 0, .slice none 0 0] 129)) := hH.2.2.2.trans (kN.mono hH.2.2.2.size)
          have hPB : wr.heap.size ≤ wd.heap.size := hH.2.2.2.size
          refine hK.out _ _ ⟨keep_cell Bc c0, keep_cell Bc c1, keep_cell Bc c2, Bc⟩ (fun hH => ?_)
          clear hK K
          have hP0 := heap_alloc_new wd (.cells #[.int .i64 0, .slice none 0 0, .slice none 0 0] 129)
          have hP := hP0
          clear kN Bc
          generalize wd.alloc (.cells #[.int .i64 0, .slice none 0 0, .slice none 0 0] 129) = v2 at *
          refine wpAnyH_ready (rs := [11]) (by kernel_rfl) (by simp) ?_
          refine AllReadyH.cons rfl (fun K hK => ?_) AllReadyH.nil
          go_simp
          refine (l6Without_any ah nh ch t lhs _ (h3.below hH.2.2.2) hnh).mono ?_
          rintro e v7 ⟨a1, d1, rfl, ox, bx⟩
          have zx := bx.size
          have Bc := hH.2.2.2.trans (bx.mono hH.2.2.2.size)
          have hx1 := fun g (hg : (Value.slice a1 (Ch.withoutH lhs t).length d1).ownBlock = some g) => owns_lt ox g hg
          have ox := owns_base ox (base' := wr.heap.size) hH.2.2.2.size
          have hP := heap_below bx hP
          have hxP : ∀ g, (Value.slice a1 (Ch.withoutH lhs t).length d1).ownBlock = some g → g ≠ wd.heap.size := fun g hg e => by have := (hx1 g hg).1; have := (Array.getElem?_eq_some_iff.1 hP0).1; omega
          go_wp2_with fail
          refine hK.out _ _ ⟨keep_cell Bc c0, keep_cell Bc c1, keep_cell Bc c2, Bc⟩ (fun hH => ?_)
          clear hK K
          refine wpAnyH_ready (rs := [18]) (by kernel_rfl) (by simp) ?_
          refine AllReadyH.cons rfl (fun K hK => ?_) AllReadyH.nil
          go_simp
          refine (l6Without_any aq nq cq t lqs _ (h4.below hH.2.2.2) hnq).mono ?_
          rintro e v8 ⟨a2, d2, rfl, oy, by'⟩
          have zy := by'.size
          have Bc := hH.2.2.2.trans (by'.mono hH.2.2.2.size)
          have hy1 := fun g (hg : (Value.slice a2 (Ch.withoutH lqs t).length d2).ownBlock = some g) => owns_lt oy g hg
          have hxy : ∀ g, (Value.slice a1 (Ch.withoutH lhs t).length d1).ownBlock = some g → (Value.slice a2 (Ch.withoutH lqs t).length d2).ownBlock ≠ some g := fun g hg e => by have := (owns_lt ox g hg).2; have := (hy1 g e).1; omega
          have oy := owns_base oy (base' := wr.heap.size) hH.2.2.2.size
          have ox := owns_below ox by'
          have hyP : ∀ g, (Value.slice a2 (Ch.withoutH lqs t).length d2).ownBlock = some g → g ≠ wd.heap.size := fun g hg e => by have := (hy1 g hg).1; have := (Array.getElem?_eq_some_iff.1 hP).1; omega
          have hP := heap_below by' hP
          go_wp2_with fail
          refine hK.out _ _ ⟨keep_cell Bc c0, keep_cell Bc c1, keep_cell Bc c2, Bc⟩ (fun hH => ?_)
          clear hK K
          refine hTake (i := 19) (v := ?_) rfl (by kernel_rfl) (by kernel_rfl) (by kernel_rfl) (by rfl) ?_ hH ?_
          rotate_left
          · intro W hW; (try dsimp only at hW); go_simp <;> with_reducible rfl
          simp only [Act.put, List.setIfInBounds_toArray, List.set_cons_zero, List.set_cons_succ]
          obtain ⟨⟨p0, p1, p2⟩, e0, e1, e2⟩ := row3 hP
          have lP := lt_of_cell p0
          have Bf := ((hH.2.2.2.setCell (p := ⟨wd.heap.size, 0, none⟩) hPB (.int .i64 r)).setCell (p := ⟨wd.heap.size, 1, none⟩) hPB (.slice a1 (Ch.withoutH lhs t).length d1)).setCell (p := ⟨wd.heap.size, 2, none⟩) hPB (.slice a2 (Ch.withoutH lqs t).length d2)
          refine wpAnyH_ready (rs := [21]) (by kernel_rfl) (by simp) ?_
          refine AllReadyH.cons rfl (fun K hK => ?_) AllReadyH.nil
          go_simp
          refine hK.out _ _ ⟨keep_cell Bf c0, keep_cell Bf c1, keep_cell Bf c2, Bf⟩ (fun hH => ?_)
          clear hK K
          refine wpAnyH_done (by kernel_rfl) ?_ _
          refine NoPanic.normal ?_
          go_wp2_with fail
          go_meet
          have hPf := Joins.block_setCell (i := 2) (Joins.block_setCell (i := 1) (Joins.block_setCell (i := 0) hP (.int .i64 r)) (.slice a1 (Ch.withoutH lhs t).length d1)) (.slice a2 (Ch.withoutH lqs t).length d2)
          refine ⟨wd.heap.size, a1, d1, a2, d2, rfl, by simpa using hPf, ?_, ?_, hxy, hxP, hyP, hPB, Bf⟩
          · exact ownsSet3 ox hxP _ _ _
          · exact ownsSet3 oy hyP _ _ _
      case rest =>
        obtain ⟨P, a1, d1, a2, d2, rfl, hP, ox, oy, hxy, hxP, hyP, hPB, bX⟩ := hcut
        have rk1 := rk.below bX
        have oi1 := owns_below oi bX
        have hB1 := hB.trans (bX.mono hB.size)
        have hzX := bX.size
        obtain ⟨H0, HH0⟩ : ∃ H0, Hid (wr.heap.size = H0) := ⟨_, rfl⟩
        have hrkH : ∀ g ∈ (Value.slice ao mo co).ownBlock.toList ++ vo.flatMap rblk, g < H0 := fun g hg => by have := (rk.bd hg).2; have := HH0.out; omega
        have hiH : ∀ g, (Value.slice a' m0 c').ownBlock = some g → g < H0 := fun g hg => by have := (owns_lt oi g hg).2; have := HH0.out; omega
        have hwH : w.heap.size ≤ H0 := by have := hB.size; have := HH0.out; omega
        rw [HH0.out] at ox oy hPB hzX
        have HCY : Hid (∀ W : World, W.ownsRow H0 131 2 (.slice a2 (Ch.withoutH lqs t).length d2) (Ch.withoutH lqs t).length (hcells (Ch.withoutH lqs t)) → CellsAt W a2 ((Ch.withoutH lqs t).length * 2) (hcells (Ch.withoutH lqs t))) := fun W hW => owns_cells hW
        have hya := QF.own oy
        have hcy := owns_cap oy
        have hap0 := hap
        clear rk oi hB bX c0 c1 c2 h3 h4 hap
        go_wp2
        go_loopw [7] (fun q wi => ∃ (hj qj : List Ch.Hold) (m : Nat) (a' : Option Addr) (c' : Nat) (ah : Option Addr) (ch : Nat) (aq : Option Addr) (cq : Nat) (pre : List Int), q = .slice a' m c' ∧ wi.heap[P]? = some (.cells #[.int .i64 r, .slice ah hj.length ch, .slice aq qj.length cq] 129 (0, 0)) ∧ wi.ownsRow H0 131 2 (.slice ah hj.length ch) hj.length (hcells hj) ∧ wi.ownsRow H0 131 2 (.slice a2 (Ch.withoutH lqs t).length d2) (Ch.withoutH lqs t).length (hcells (Ch.withoutH lqs t)) ∧ Hid (∀ W : World, W.ownsRow H0 131 2 (.slice a2 (Ch.withoutH lqs t).length d2) (Ch.withoutH lqs t).length (hcells (Ch.withoutH lqs t)) → CellsAt W aq (qj.length * 2) (hcells qj)) ∧ qj.length ≤ cq ∧ QF aq cq a2 d2 ∧ (∀ g, (Value.slice ah hj.length ch).ownBlock = some g → g ≠ P ∧ (Value.slice a2 (Ch.withoutH lqs t).length d2).ownBlock ≠ some g) ∧ wi.ownsRow w.heap.size 2 1 (.slice a' m c') m (icells pre) ∧ (∀ g, (Value.slice a' m c').ownBlock = some g → g ≠ P ∧ (Value.slice ah hj.length ch).ownBlock ≠ some g ∧ (Value.slice a2 (Ch.withoutH lqs t).length d2).ownBlock ≠ some g ∧ g ∉ (Value.slice ao mo co).ownBlock.toList ++ vo.flatMap rblk) ∧ ReadK wi w.heap.size (.slice ao mo co) mo outl vo ∧ Hid (Ch.namesH hj = true) ∧ Hid (Ch.namesH qj = true) ∧ Hid (pre0 ++ (Ch.admitL (Ch.withoutH lhs t) (Ch.withoutH lqs t)).2.2 = pre ++ (Ch.admitL hj qj).2.2 ∧ (Ch.admitL (Ch.withoutH lhs t) (Ch.withoutH lqs t)).1 = (Ch.admitL hj qj).1 ∧ (Ch.admitL (Ch.withoutH lhs t) (Ch.withoutH lqs t)).2.1 = (Ch.admitL hj qj).2.1) ∧ Hid (hj.length + qj.length ≤ 40) ∧ Hid (m + qj.length = m0 + (Ch.withoutH lqs t).length) ∧ H0 ≤ wi.heap.size ∧ Below w.heap.size w wi) (fun q _ => m0 + (Ch.withoutH lqs t).length - lenV q)
        case atStart =>
          refine ⟨Ch.withoutH lhs t, Ch.withoutH lqs t, m0, a', c', a1, d1, a2, d2, pre0, rfl, hP, ox, oy, HCY.out, hcy, hya, fun g hg => ⟨hxP g hg, hxy g hg⟩, oi1, fun g hg => ⟨?_, ?_, ?_, hap0 g hg⟩, rk1, HN1.out, HN2.out, ⟨rfl, rfl, rfl⟩, ?_, rfl, hzX, hB1⟩
          · have := hiH g hg; omega
          · intro e; have := (owns_lt ox g e).1; have := hiH g hg; omega
          · intro e; have := (owns_lt oy g e).1; have := hiH g hg; omega
          · show _ ≤ _; omega
        case round =>
          clear hP ox oi1 rk1 hB1 hzX hap0 HCY
          obtain ⟨hj, qj, m, ai, ci, ah, ch, aq, cq, pre, rfl, hP, ox, oy, HCQ, hcq, hqb, hxd, oi, hid', rk, HNJ, HNQ, HAD, HS40, HMM, hzi, hB⟩ := hrel
          obtain ⟨⟨p0, p1, p2⟩, e0, e1, e2⟩ := row3 hP
          have lP := lt_of_cell p0
          have hOne : LkOne wr P 0 ah hj.length ch aq qj.length cq ⟨r, hj, qj⟩ := ⟨p0, p1, p2, owns_cells ox, HCQ.out _ oy, by have := HS40.out; omega, by have := HS40.out; omega, owns_cap ox, hcq⟩
          have IH := fun W hW => l6Head_any P 0 ah hj.length ch aq qj.length cq ⟨r, hj, qj⟩ W hW (by have := HS40.out; omega) (by have := HS40.out; omega) HNJ.out HNQ.out
          simp only at IH
          cases hf : Ch.headFits hj qj
          all_goals rw [hf] at IH
          · have HE := hid (Ch.admit_no hf)
            go_wp2_with fail
            refine (IH _ hOne).mono ?_
            rintro e w2 ⟨rfl, b2⟩
            have hP2 := heap_below b2 hP
            obtain ⟨⟨p0, p1, p2⟩, e0, e1, e2⟩ := row3 hP2
            have lP2 := lt_of_cell p0
            have rk2 := rk.below b2
            have oi2 := owns_below oi b2
            have ox2 := owns_below ox b2
            have oy2 := owns_below oy b2
            have hB2 := hB.trans (b2.mono hB.size)
            have hz2 := b2.size
            have HAD1 : Hid (pre0 ++ Ch.freeGot ⟨r, lhs, lqs⟩ t = pre ∧ Ch.freeOne ⟨r, lhs, lqs⟩ t = ⟨r, hj, qj⟩) := by
              have h1 := HAD.out
              rw [HE.out] at h1
              simp only [List.append_nil] at h1
              show _ ∧ _
              rw [HFG.out, HFO.out, h1.1, h1.2.1, h1.2.2]
              exact ⟨rfl, rfl⟩
            have hm1 : m ≤ 20 * (k + 1) := by have := HMM.out; omega
            clear hOne IH HAD HE hf
            cases hu : (hj.length + qj.length == 0)
            · have hpos : ¬ hj.length + qj.length = 0 := by simpa using hu
              have hgt : (0 : Int) < (hj.length : Int) + (qj.length : Int) := by omega
              have hwrap : IntKind.i64.wrap ((hj.length : Int) + (qj.length : Int)) = (hj.length : Int) + (qj.length : Int) := IntWalk.i64_in _ ⟨by omega, by have := HS40.out; omega⟩
              have hfil : Hid ((Ch.freeAll (ls.take (k + 1)) t).filter Ch.usedL = outl ++ [⟨r, hj, qj⟩]) := by
                show _ = _
                rw [HAll.out, List.filter_append, HOUT.out, HAD1.out.2]
                congr 1
                simp [Ch.usedL]
                simpa using hpos
              have kN : Below w2.heap.size w2 (w2.alloc (.cells #[.int .i64 r, .slice ah hj.length ch, .slice aq qj.length cq] 129)) := (Below.refl _ _).alloc (Nat.le_refl _) _
              have rk3 := rk2.below kN
              have hb3 : w.heap.size ≤ (w2.alloc (.cells #[.int .i64 r, .slice ah hj.length ch, .slice aq qj.length cq] 129)).heap.size := Nat.le_trans hB2.size kN.size
              have hsum : mo + 1 ≤ 4194304 := by omega
              go_wp2_with (at_builtin; go_must (refine wpList_appX Try.underlying36 Try.underlying36 hi1 hy0 hy1 hy2 rfl (by omega) (by omega) (.tmp 82) (.tmp 84) ?_ ?_ w.heap.size (.slice ao mo co) mo (lcells outl vo) _ 1 1 [.int .i64 r, .slice ah hj.length ch, .slice aq qj.length cq] ?_ ?_ rk3.row (new_lock w2 r ah hj.length ch aq qj.length cq _) (lock_one' r ah hj.length ch aq qj.length cq) hsum hb3 ?_; exact rfl; exact rfl; exact rfl; exact rfl; intro a5 c5 w5 own5 gr5 at5))
              go_roundw
              case rel =>
                have ⟨sx, hxa⟩ := sub_own (owns_base (owns_below ox2 kN) (base' := w.heap.size) hwH) (by have := HS40.out; omega)
                have sy : SubOk (w2.alloc (.cells #[.int .i64 r, .slice ah hj.length ch, .slice aq qj.length cq] 129)) w.heap.size (.slice aq qj.length cq) qj := by
                  refine ⟨aq, _, cq, rfl, HCQ.out _ (owns_below oy2 kN), hcq, by have := HS40.out; omega, fun g hg => ?_, hqb.roomy (owns_below oy2 kN)⟩
                  have hyb := aBlk_slice hg
                  obtain ⟨o', he'⟩ := hyb
                  have hob := owns_lt (owns_below oy2 kN) g (hqb.blk he')
                  exact ⟨by omega, hob.2⟩
                have hnr : ∀ g ∈ rblk (.slice ah hj.length ch, .slice aq qj.length cq), g ∉ (Value.slice ao mo co).ownBlock.toList ++ vo.flatMap rblk := by
                  intro g hm hg
                  have hlt := hrkH g hg
                  simp only [rblk, List.mem_append] at hm
                  rcases hm with hm | hm
                  · have := (owns_lt ox g (hxa g hm)).1; omega
                  · obtain ⟨o', he'⟩ := aBlk_slice hm
                    have := (owns_lt oy g (hqb.blk he')).1; omega
                have hnd : (rblk (.slice ah hj.length ch, .slice aq qj.length cq)).Nodup := by
                  unfold rblk
                  rw [List.nodup_append]
                  refine ⟨aBlk_nodup _, aBlk_nodup _, fun a ha b hb e => ?_⟩
                  subst e
                  obtain ⟨o', he'⟩ := aBlk_slice hb
                  exact (hxd a (hxa a ha)).2 (hqb.blk he')
                have rk4 := rk3.snoc (l := ⟨r, hj, qj⟩) own5 gr5 at5 sx sy hnr hnd
                have hin : ∀ g, (Value.slice ai m ci).ownBlock = some g → (Value.slice ao mo co).ownBlock ≠ some g := fun g hg e => (hid' g hg).2.2.2 (List.mem_append.2 (.inl (by simp [e])))
                have oi5 := owns_grown (owns_below oi2 kN) gr5 (fun g hg e => hin g hg e)
                have b3 := hB2.trans (kN.mono hB2.size)
                refine ⟨k + 1, mo + 1, a5, c5, m, ai, ci, vo ++ [(.slice ah hj.length ch, .slice aq qj.length cq)], by omega, by go_num, rfl, rfl, by rw [hfil.out]; exact rk4, by omega, by rw [HFI.out, HAD1.out.1]; exact oi5, hm1, fun g hg hm => ?_, b3.grown gr5 b3.size (fun g hg => (owns_lt rk3.row g hg).1)⟩
                rw [List.flatMap_append, List.mem_append, List.mem_append] at hm
                have hgl := (owns_lt oi2 g hg).2
                rcases hm with hm | hm | hm
                · rcases at5 g (by simpa using hm) with h1 | h1
                  · exact hin g hg h1
                  · have := kN.size; omega
                · exact (hid' g hg).2.2.2 (List.mem_append.2 (.inr hm))
                · simp only [List.flatMap_cons, List.flatMap_nil, List.append_nil, rblk, List.mem_append] at hm
                  rcases hm with hm | hm
                  · exact (hid' g hg).2.1 (hxa g hm)
                  · obtain ⟨o', he'⟩ := aBlk_slice hm
                    exact (hid' g hg).2.2.1 (hqb.blk he')
              case measure => simp [intOf]; omega
            · have hz : hj.length + qj.length = 0 := by simpa using hu
              have hj0 : hj.length = 0 := by omega
              have hq0 : qj.length = 0 := by omega
              have hfil : Hid ((Ch.freeAll (ls.take (k + 1)) t).filter Ch.usedL = outl) := by
                show _ = _
                rw [HAll.out, List.filter_append, HOUT.out, HAD1.out.2]
                simp [Ch.usedL, hj0, hq0]
              rw [hj0] at p1
              rw [hq0] at p2
              go_wp2
              go_roundw
              case rel => exact ⟨k + 1, mo, ao, co, m, ai, ci, vo, by omega, by go_num, rfl, rfl, by rw [hfil.out]; exact rk2, by omega, by rw [HFI.out, HAD1.out.1]; exact oi2, hm1, fun g hg => (hid' g hg).2.2.2, hB2⟩
              case measure => simp [intOf]; omega
          · cases qj with
            | nil => simp [Ch.headFits] at hf
            | cons q0 qj =>
              obtain ⟨ht, hm⟩ := q0
              have HE := hid (Ch.admit_yes hf)
              have hnn := HNQ.out
              simp only [Ch.namesH, List.all_cons, Bool.and_eq_true] at hnn
              have HNH := hid hnn.1
              have HNT : Hid (Ch.namesH qj = true) := hnn.2
              obtain ⟨qb, qo, rfl, q0, q1⟩ := (HCQ.out _ oy).hold (k := 0) (by simp)
              simp only [Nat.zero_mul, Nat.add_zero, List.getD_cons_zero] at q0 q1
              have hyb : (Value.slice a2 (Ch.withoutH lqs t).length d2).ownBlock = some qb := hqb.blk rfl
              simp only [List.length_cons] at p2 hOne IH hcq
              clear hf hnn
              go_wp2_with fail
              refine (IH _ hOne).mono ?_
              rintro e w2 ⟨rfl, b2⟩
              have hP2 := heap_below b2 hP
              obtain ⟨⟨p0, p1, p2⟩, e0, e1, e2⟩ := row3 hP2
              simp only [List.length_cons] at p2
              have lP2 := lt_of_cell p0
              have d0 := keep_cell b2 q0
              have d1 := keep_cell b2 q1
              have lq2 := lt_of_cell d0
              have hz2 := b2.size
              have hqP : ¬ qb = P := fun e => hyP qb hyb e
              have hc1 : (1 : Int) ≤ (qj.length : Int) + 1 := by omega
              have hc2 : (1 : Int) ≤ (cq : Int) := by omega
              have hc3 : 1 ≤ cq := by omega
              by_cases hcc : cq = 1
              · subst hcc
                obtain rfl : qj = [] := List.length_eq_zero_iff.1 (by omega)
                simp only [List.length_nil] at p2 hc1
                rcases Ch.atH_cases hj ht with ⟨he, HAT, _⟩ | ⟨j, hjl, HAT, he, htj, _⟩
                · have HPUT := hid (Ch.putH_no (h := ⟨ht, hm⟩) he)
                  clear he
                  have g3 := grown_set w2 P 2 (.slice (some ⟨qb, qo, none⟩) 0 0)
                  have k3 : Below (w2.setCell ⟨P, 2, none⟩ (.slice (some ⟨qb, qo, none⟩) 0 0)).heap.size (w2.setCell ⟨P, 2, none⟩ (.slice (some ⟨qb, qo, none⟩) 0 0)) (((w2.setCell ⟨P, 2, none⟩ (.slice (some ⟨qb, qo, none⟩) 0 0)).alloc (.cells #[.int .i64 ht, .int .i64 hm] 131)).alloc (.cells #[.int .i64 ht] 2)) := ((Below.refl _ _).alloc (Nat.le_refl _) _).alloc (by simp) _
                  have hP3 : (((w2.setCell ⟨P, 2, none⟩ (.slice (some ⟨qb, qo, none⟩) 0 0)).alloc (.cells #[.int .i64 ht, .int .i64 hm] 131)).alloc (.cells #[.int .i64 ht] 2)).heap[P]? = some (.cells #[.int .i64 r, .slice ah hj.length ch, .slice (some ⟨qb, qo, none⟩) 0 0] 129 (0, 0)) := heap_below k3 (by have := Joins.block_setCell (i := 2) hP2 (.slice (some ⟨qb, qo, none⟩) 0 0); simpa using this)
                  have ox3 := owns_below (owns_grown (owns_below ox b2) g3 (fun g hg e => by cases e; exact (hxd P hg).1 rfl)) k3
                  have oy3 := owns_below (owns_grown (owns_below oy b2) g3 (fun g hg e => by cases e; exact hyP P hg rfl)) k3
                  have oi3 := owns_below (owns_grown (owns_below oi b2) g3 (fun g hg e => by cases e; exact (hid' P hg).1 rfl)) k3
                  have rk3 := ((rk.below b2).other g3 (fun g hg hm => by cases hg; have := hrkH P hm; omega)).below k3
                  have hBT : Below w.heap.size w (((w2.setCell ⟨P, 2, none⟩ (.slice (some ⟨qb, qo, none⟩) 0 0)).alloc (.cells #[.int .i64 ht, .int .i64 hm] 131)).alloc (.cells #[.int .i64 ht] 2)) := ((hB.trans (b2.mono hB.size)).grown g3 (Nat.le_trans hB.size b2.size) (fun g hg => by cases hg; omega)).trans (k3.mono (by simp; exact Nat.le_trans hB.size b2.size))
                  have hC3 : CellsAt (((w2.setCell ⟨P, 2, none⟩ (.slice (some ⟨qb, qo, none⟩) 0 0)).alloc (.cells #[.int .i64 ht, .int .i64 hm] 131)).alloc (.cells #[.int .i64 ht] 2)) (some ⟨w2.heap.size + 1, 0, none⟩) (1 * 1) (icells [ht]) := by
                    have := new_int ((w2.setCell ⟨P, 2, none⟩ (.slice (some ⟨qb, qo, none⟩) 0 0)).alloc (.cells #[.int .i64 ht, .int .i64 hm] 131)) ht 2
                    rwa [show ((w2.setCell ⟨P, 2, none⟩ (.slice (some ⟨qb, qo, none⟩) 0 0)).alloc (.cells #[.int .i64 ht, .int .i64 hm] 131)).heap.size = w2.heap.size + 1 by simp] at this
                  have z0 : (((w2.setCell ⟨P, 2, none⟩ (.slice (some ⟨qb, qo, none⟩) 0 0)).alloc (.cells #[.int .i64 ht, .int .i64 hm] 131)).alloc (.cells #[.int .i64 ht] 2)).cell? ⟨w2.heap.size, 0, none⟩ = some (.int .i64 ht) := by simp [go_sem]
                  have z1 : (((w2.setCell ⟨P, 2, none⟩ (.slice (some ⟨qb, qo, none⟩) 0 0)).alloc (.cells #[.int .i64 ht, .int .i64 hm] 131)).alloc (.cells #[.int .i64 ht] 2)).cell? ⟨w2.heap.size, 1, none⟩ = some (.int .i64 hm) := by simp [go_sem]
                  have hsz4 : w2.heap.size < (((w2.setCell ⟨P, 2, none⟩ (.slice (some ⟨qb, qo, none⟩) 0 0)).alloc (.cells #[.int .i64 ht, .int .i64 hm] 131)).alloc (.cells #[.int .i64 ht] 2)).heap.size := by simp; omega
                  have hsum : m + 1 ≤ 4194304 := by have := HMM.out; simp at this; omega
                  have hb4 : w.heap.size ≤ (((w2.setCell ⟨P, 2, none⟩ (.slice (some ⟨qb, qo, none⟩) 0 0)).alloc (.cells #[.int .i64 ht, .int .i64 hm] 131)).alloc (.cells #[.int .i64 ht] 2)).heap.size := hBT.size
                  have hni : (Value.slice ai m ci).ownBlock ≠ some w2.heap.size := fun e => by have := (owns_lt oi _ e).2; omega
                  have hLx : hj.length ≤ 1048576 := by have := HS40.out; omega
                  have IL := fun W hW => l6At_any ah hj.length ch ht hj W hW hLx
                  go_wp2_with (at_builtin; go_must (refine wpList_appX Try.underlying49 Try.underlying49 hi0 hz0 hz1 hz2I rfl (by omega) (by omega) (.tmp 49) (.tmp 52) ?_ ?_ w.heap.size (.slice ai m ci) m (icells pre) _ 1 1 (icells [ht]) ?_ ?_ oi3 hC3 (icells_one' [ht]) hsum hb4 ?_; exact rfl; exact rfl; exact rfl; exact rfl; intro a5 c5 w5 own5 gr5 at5; have hP5 := gr_heap gr5 hP3 (fun e => (hid' P e).1 rfl); obtain ⟨⟨v0, v1, v2⟩, y0, y1, y2⟩ := row3 hP5; have lv := lt_of_cell v0; have x0 := grown_cell gr5 z0 hni; have x1 := grown_cell gr5 z1 hni; have lx := lt_of_cell x0; have ox5 := owns_grown ox3 gr5 (fun g hg e => (hid' g e).2.1 hg)))
                  refine (IL _ (owns_cells ox5)).mono ?_
                  rintro e w6 ⟨rfl, hw6⟩
                  obtain rfl := hw6.symm
                  rw [HAT]
                  have oy5 := owns_grown oy3 gr5 (fun g hg e => (hid' g e).2.2.1 hg)
                  have rk5 := rk3.other gr5 (fun g hg => (hid' g hg).2.2.2)
                  have hB5 := hBT.grown gr5 hb4 (fun g hg => (owns_lt oi3 g hg).1)
                  have hz5 := gr5.size
                  have kN : Below w5.heap.size w5 (w5.alloc (.cells #[.int .i64 ht, .int .i64 hm] 131)) := (Below.refl _ _).alloc (Nat.le_refl _) _
                  have ox6 := owns_below ox5 kN
                  have hb6 : H0 ≤ (w5.alloc (.cells #[.int .i64 ht, .int .i64 hm] 131)).heap.size := by have := kN.size; omega
                  have hC6 := new_hold w5 ht hm 131
                  have hsum6 : hj.length + 1 ≤ 4194304 := by omega
                  have hP6 := heap_below kN hP5
                  go_wp2_with (at_builtin; go_must (refine wpList_appX Try.underlying127 Try.underlying127 hi2 hx0 hx1' hx2 rfl (by omega) (by omega) (.tmp 69) (.tmp 71) ?_ ?_ H0 (.slice ah hj.length ch) hj.length (hcells hj) _ 1 1 (hcells [⟨ht, hm⟩]) ?_ ?_ ox6 hC6 (hcells_one' _) hsum6 hb6 ?_; exact rfl; exact rfl; exact rfl; exact rfl; intro a7 c7 w7 own7 gr7 at7; have hP7 := gr_heap gr7 hP6 (fun e => (hxd P e).1 rfl); obtain ⟨⟨s0, s1, s2⟩, t0, t1, t2⟩ := row3 hP7; have ls := lt_of_cell s0))
                  go_roundw
                  case rel =>
                    rw [← hcells_append] at own7
                    have g8 := grown_set w7 P 1 (.slice a7 (hj.length + 1) c7)
                    have hz7 := gr7.size
                    have hzN : w5.heap.size < (w5.alloc (.cells #[.int .i64 ht, .int .i64 hm] 131)).heap.size := by simp
                    have hx7 : ∀ g, (Value.slice a7 (hj.length + 1) c7).ownBlock = some g → g ≠ P ∧ (Value.slice a2 (Ch.withoutH lqs t).length d2).ownBlock ≠ some g := fun g hg => by
                      rcases at7 g hg with h1 | h1
                      · exact hxd g h1
                      · exact ⟨by omega, fun e => by have := (owns_lt oy g e).2; omega⟩
                    have hi7 : ∀ g, (Value.slice a5 (m + 1) c5).ownBlock = some g → g ≠ P ∧ (Value.slice ah hj.length ch).ownBlock ≠ some g ∧ (Value.slice a2 (Ch.withoutH lqs t).length d2).ownBlock ≠ some g ∧ g ∉ (Value.slice ao mo co).ownBlock.toList ++ vo.flatMap rblk := fun g hg => by
                      rcases at5 g hg with h1 | h1
                      · exact hid' g h1
                      · exact ⟨by omega, fun e => by have := (owns_lt ox g e).2; omega, fun e => by have := (owns_lt oy g e).2; omega, fun hm' => by have := hrkH g hm'; omega⟩
                    rw [← icells_append] at own5
                    have oi7 := owns_grown (owns_grown (owns_below own5 kN) gr7 (fun g hg e => (hi7 g hg).2.1 e)) g8 (fun g hg e => by cases e; exact (hi7 P hg).1 rfl)
                    have oy7 := owns_grown (owns_grown (owns_below oy5 kN) gr7 (fun g hg e => (hxd g e).2 hg)) g8 (fun g hg e => by cases e; exact hyP P hg rfl)
                    have rk7 := ((rk5.below kN).other gr7 (fun g hg hm' => by have := hrkH g hm'; have := (owns_lt ox g hg).1; omega)).other g8 (fun g hg hm' => by cases hg; have := hrkH P hm'; omega)
                    have hB6 := hB5.trans (kN.mono hB5.size)
                    have hB7 := hB6.grown gr7 hB6.size (fun g hg => by have := (owns_lt ox g hg).1; omega)
                    have hB8 := hB7.grown g8 hB7.size (fun g hg => by cases hg; omega)
                    have hP8 : (w7.setCell ⟨P, 1, none⟩ (.slice a7 (hj.length + 1) c7)).heap[P]? = some (.cells #[.int .i64 r, .slice a7 (hj.length + 1) c7, .slice (some ⟨qb, qo, none⟩) 0 0] 129 (0, 0)) := by
                      have := Joins.block_setCell (i := 1) hP7 (.slice a7 (hj.length + 1) c7)
                      simpa using this
                    have own8 := owns_grown own7 g8 (fun g hg e => by cases e; exact (hx7 P hg).1 rfl)
                    have hlen : (hj ++ [(⟨ht, hm⟩ : Ch.Hold)]).length = hj.length + 1 := by simp
                    refine ⟨hj ++ [⟨ht, hm⟩], [], m + 1, a5, c5, a7, c7, (some ⟨qb, qo, none⟩), 0, pre ++ [ht], rfl, by rw [hlen]; exact hP8, by rw [hlen]; exact own8, oy7, fun W hW => ⟨rfl, fun h => absurd h (by simp)⟩, by omega, hqb.last, by rw [hlen]; exact hx7, oi7, fun g hg => by rw [hlen]; exact ⟨(hi7 g hg).1, fun e => (at7 g e).elim (fun h1 => (hi7 g hg).2.1 h1) (fun h1 => by have := (owns_lt own5 g hg).2; omega), (hi7 g hg).2.2.1, (hi7 g hg).2.2.2⟩, rk7, ?_, HNT.out, ?_, ?_, ?_, by simp; omega, hB8⟩
                    · rw [← HPUT.out]; exact Ch.putH_names HNJ.out HNH.out
                    · have h1 := HAD.out
                      rw [HE.out] at h1
                      show _ ∧ _
                      rw [← HPUT.out]
                      exact ⟨by rw [h1.1]; simp, h1.2⟩
                    · have h1 := HS40.out; have h2 := Ch.putH_len hj ⟨ht, hm⟩; rw [HPUT.out] at h2; simp at h1; show _ ≤ _; omega
                    · have h1 := HMM.out; simp at h1; show _ = _; omega
                  case measure => have h1 := HMM.out; simp at h1; simp [lenV]; omega
                · have HPUT := hid (Ch.putH_yes (h := ⟨ht, hm⟩) he HAT)
                  have HTJ := hid htj
                  clear he
                  obtain ⟨xb, rfl⟩ : ∃ xb, ah = some ⟨xb, 0, none⟩ := by
                    rcases ox.2 with ⟨hv, h0⟩ | ⟨g, cp, cur, hv, _⟩
                    · omega
                    · simp only [Value.slice.injEq, true_and] at hv
                      exact ⟨g, hv.1⟩
                  have hxb := owns_lt ox xb rfl
                  have g3 := grown_set w2 P 2 (.slice (some ⟨qb, qo, none⟩) 0 0)
                  have k3 : Below (w2.setCell ⟨P, 2, none⟩ (.slice (some ⟨qb, qo, none⟩) 0 0)).heap.size (w2.setCell ⟨P, 2, none⟩ (.slice (some ⟨qb, qo, none⟩) 0 0)) (((w2.setCell ⟨P, 2, none⟩ (.slice (some ⟨qb, qo, none⟩) 0 0)).alloc (.cells #[.int .i64 ht, .int .i64 hm] 131)).alloc (.cells #[.int .i64 ht] 2)) := ((Below.refl _ _).alloc (Nat.le_refl _) _).alloc (by simp) _
                  have hP3 : (((w2.setCell ⟨P, 2, none⟩ (.slice (some ⟨qb, qo, none⟩) 0 0)).alloc (.cells #[.int .i64 ht, .int .i64 hm] 131)).alloc (.cells #[.int .i64 ht] 2)).heap[P]? = some (.cells #[.int .i64 r, .slice (some ⟨xb, 0, none⟩) hj.length ch, .slice (some ⟨qb, qo, none⟩) 0 0] 129 (0, 0)) := heap_below k3 (by have := Joins.block_setCell (i := 2) hP2 (.slice (some ⟨qb, qo, none⟩) 0 0); simpa using this)
                  have ox3 := owns_below (owns_grown (owns_below ox b2) g3 (fun g hg e => by cases e; exact (hxd P hg).1 rfl)) k3
                  have oy3 := owns_below (owns_grown (owns_below oy b2) g3 (fun g hg e => by cases e; exact hyP P hg rfl)) k3
                  have oi3 := owns_below (owns_grown (owns_below oi b2) g3 (fun g hg e => by cases e; exact (hid' P hg).1 rfl)) k3
                  have rk3 := ((rk.below b2).other g3 (fun g hg hm => by cases hg; have := hrkH P hm; omega)).below k3
                  have hBT : Below w.heap.size w (((w2.setCell ⟨P, 2, none⟩ (.slice (some ⟨qb, qo, none⟩) 0 0)).alloc (.cells #[.int .i64 ht, .int .i64 hm] 131)).alloc (.cells #[.int .i64 ht] 2)) := ((hB.trans (b2.mono hB.size)).grown g3 (Nat.le_trans hB.size b2.size) (fun g hg => by cases hg; omega)).trans (k3.mono (by simp; exact Nat.le_trans hB.size b2.size))
                  have hC3 : CellsAt (((w2.setCell ⟨P, 2, none⟩ (.slice (some ⟨qb, qo, none⟩) 0 0)).alloc (.cells #[.int .i64 ht, .int .i64 hm] 131)).alloc (.cells #[.int .i64 ht] 2)) (some ⟨w2.heap.size + 1, 0, none⟩) (1 * 1) (icells [ht]) := by
                    have := new_int ((w2.setCell ⟨P, 2, none⟩ (.slice (some ⟨qb, qo, none⟩) 0 0)).alloc (.cells #[.int .i64 ht, .int .i64 hm] 131)) ht 2
                    rwa [show ((w2.setCell ⟨P, 2, none⟩ (.slice (some ⟨qb, qo, none⟩) 0 0)).alloc (.cells #[.int .i64 ht, .int .i64 hm] 131)).heap.size = w2.heap.size + 1 by simp] at this
                  have z0 : (((w2.setCell ⟨P, 2, none⟩ (.slice (some ⟨qb, qo, none⟩) 0 0)).alloc (.cells #[.int .i64 ht, .int .i64 hm] 131)).alloc (.cells #[.int .i64 ht] 2)).cell? ⟨w2.heap.size, 0, none⟩ = some (.int .i64 ht) := by simp [go_sem]
                  have z1 : (((w2.setCell ⟨P, 2, none⟩ (.slice (some ⟨qb, qo, none⟩) 0 0)).alloc (.cells #[.int .i64 ht, .int .i64 hm] 131)).alloc (.cells #[.int .i64 ht] 2)).cell? ⟨w2.heap.size, 1, none⟩ = some (.int .i64 hm) := by simp [go_sem]
                  have hsz4 : w2.heap.size < (((w2.setCell ⟨P, 2, none⟩ (.slice (some ⟨qb, qo, none⟩) 0 0)).alloc (.cells #[.int .i64 ht, .int .i64 hm] 131)).alloc (.cells #[.int .i64 ht] 2)).heap.size := by simp; omega
                  have hsum : m + 1 ≤ 4194304 := by have := HMM.out; simp at this; omega
                  have hb4 : w.heap.size ≤ (((w2.setCell ⟨P, 2, none⟩ (.slice (some ⟨qb, qo, none⟩) 0 0)).alloc (.cells #[.int .i64 ht, .int .i64 hm] 131)).alloc (.cells #[.int .i64 ht] 2)).heap.size := hBT.size
                  have hni : (Value.slice ai m ci).ownBlock ≠ some w2.heap.size := fun e => by have := (owns_lt oi _ e).2; omega
                  have hLx : hj.length ≤ 1048576 := by have := HS40.out; omega
                  have IL := fun W hW => l6At_any (some ⟨xb, 0, none⟩) hj.length ch ht hj W hW hLx
                  go_wp2_with (at_builtin; go_must (refine wpList_appX Try.underlying49 Try.underlying49 hi0 hz0 hz1 hz2I rfl (by omega) (by omega) (.tmp 49) (.tmp 52) ?_ ?_ w.heap.size (.slice ai m ci) m (icells pre) _ 1 1 (icells [ht]) ?_ ?_ oi3 hC3 (icells_one' [ht]) hsum hb4 ?_; exact rfl; exact rfl; exact rfl; exact rfl; intro a5 c5 w5 own5 gr5 at5; have hP5 := gr_heap gr5 hP3 (fun e => (hid' P e).1 rfl); obtain ⟨⟨v0, v1, v2⟩, y0, y1, y2⟩ := row3 hP5; have lv := lt_of_cell v0; have x0 := grown_cell gr5 z0 hni; have x1 := grown_cell gr5 z1 hni; have lx := lt_of_cell x0; have ox5 := owns_grown ox3 gr5 (fun g hg e => (hid' g e).2.1 hg)))
                  refine (IL _ (owns_cells ox5)).mono ?_
                  rintro e w6 ⟨rfl, hw6⟩
                  obtain rfl := hw6.symm
                  rw [HAT]
                  have oy5 := owns_grown oy3 gr5 (fun g hg e => (hid' g e).2.2.1 hg)
                  have rk5 := rk3.other gr5 (fun g hg => (hid' g hg).2.2.2)
                  have hB5 := hBT.grown gr5 hb4 (fun g hg => (owns_lt oi3 g hg).1)
                  have hz5 := gr5.size
                  have ff := ox5.frozenAt (j * 2 + 1)
                  obtain ⟨uu, hu⟩ := owns_some ox5 (j := j * 2 + 1) (by omega)
                  have lxb := lt_of_cell hu
                  have hst := ox5.stored (j * 2 + 1) (.int .i64 hm)
                  rw [hcells_setm hj j ⟨ht, hm⟩ hjl HTJ.out] at hst
                  have hxP : ¬ P = xb := fun e => (hxd xb rfl).1 e.symm
                  go_wp2
                  go_roundw
                  case rel =>
                    have hlen : (hj.set j ⟨ht, hm⟩).length = hj.length := by simp
                    refine ⟨hj.set j ⟨ht, hm⟩, [], m + 1, a5, c5, some ⟨xb, 0, none⟩, ch, (some ⟨qb, qo, none⟩), 0, pre ++ [ht], rfl, by rw [hlen]; exact gr_heap hst.2 hP5 (by simpa using fun e => hxP e.symm), by rw [hlen]; exact hst.1, owns_grown oy5 hst.2 (fun g hg e => by cases e; exact (hxd _ rfl).2 hg), fun W hW => ⟨rfl, fun h => absurd h (by simp)⟩, by omega, hqb.last, by rw [hlen]; exact hxd, by rw [← icells_append] at own5; exact owns_grown own5 hst.2 (fun g hg e => by cases e; exact (at5 _ hg).elim (fun h1 => (hid' _ h1).2.1 rfl) (fun h1 => by omega)), fun g hg => by rw [hlen]; exact (at5 g hg).elim (fun h1 => hid' g h1) (fun h1 => ⟨by omega, fun e => by have := (owns_lt ox g e).2; omega, fun e => by have := (owns_lt oy g e).2; omega, fun hm' => by have := hrkH g hm'; omega⟩), rk5.other hst.2 (fun g hg hm' => by cases hg; have := hrkH _ hm'; have := hxb.1; omega), ?_, HNT.out, ?_, ?_, ?_, by simp; omega, hB5.grown hst.2 hB5.size (fun g hg => by cases hg; have := hxb.1; omega)⟩
                    · rw [← HPUT.out]; exact Ch.putH_names HNJ.out HNH.out
                    · have h1 := HAD.out
                      rw [HE.out] at h1
                      show _ ∧ _
                      rw [← HPUT.out]
                      exact ⟨by rw [h1.1]; simp, h1.2⟩
                    · have h1 := HS40.out; have h2 := Ch.putH_len hj ⟨ht, hm⟩; rw [HPUT.out] at h2; simp at h1; show _ ≤ _; omega
                    · have h1 := HMM.out; simp at h1; show _ = _; omega
                  case measure => have h1 := HMM.out; simp at h1; simp [lenV]; omega
              · rcases Ch.atH_cases hj ht with ⟨he, HAT, _⟩ | ⟨j, hjl, HAT, he, htj, _⟩
                · have HPUT := hid (Ch.putH_no (h := ⟨ht, hm⟩) he)
                  clear he
                  have g3 := grown_set w2 P 2 (.slice (some ⟨qb, qo + 2, none⟩) qj.length (cq - 1))
                  have k3 : Below (w2.setCell ⟨P, 2, none⟩ (.slice (some ⟨qb, qo + 2, none⟩) qj.length (cq - 1))).heap.size (w2.setCell ⟨P, 2, none⟩ (.slice (some ⟨qb, qo + 2, none⟩) qj.length (cq - 1))) (((w2.setCell ⟨P, 2, none⟩ (.slice (some ⟨qb, qo + 2, none⟩) qj.length (cq - 1))).alloc (.cells #[.int .i64 ht, .int .i64 hm] 131)).alloc (.cells #[.int .i64 ht] 2)) := ((Below.refl _ _).alloc (Nat.le_refl _) _).alloc (by simp) _
                  have hP3 : (((w2.setCell ⟨P, 2, none⟩ (.slice (some ⟨qb, qo + 2, none⟩) qj.length (cq - 1))).alloc (.cells #[.int .i64 ht, .int .i64 hm] 131)).alloc (.cells #[.int .i64 ht] 2)).heap[P]? = some (.cells #[.int .i64 r, .slice ah hj.length ch, .slice (some ⟨qb, qo + 2, none⟩) qj.length (cq - 1)] 129 (0, 0)) := heap_below k3 (by have := Joins.block_setCell (i := 2) hP2 (.slice (some ⟨qb, qo + 2, none⟩) qj.length (cq - 1)); simpa using this)
                  have ox3 := owns_below (owns_grown (owns_below ox b2) g3 (fun g hg e => by cases e; exact (hxd P hg).1 rfl)) k3
                  have oy3 := owns_below (owns_grown (owns_below oy b2) g3 (fun g hg e => by cases e; exact hyP P hg rfl)) k3
                  have oi3 := owns_below (owns_grown (owns_below oi b2) g3 (fun g hg e => by cases e; exact (hid' P hg).1 rfl)) k3
                  have rk3 := ((rk.below b2).other g3 (fun g hg hm => by cases hg; have := hrkH P hm; omega)).below k3
                  have hBT : Below w.heap.size w (((w2.setCell ⟨P, 2, none⟩ (.slice (some ⟨qb, qo + 2, none⟩) qj.length (cq - 1))).alloc (.cells #[.int .i64 ht, .int .i64 hm] 131)).alloc (.cells #[.int .i64 ht] 2)) := ((hB.trans (b2.mono hB.size)).grown g3 (Nat.le_trans hB.size b2.size) (fun g hg => by cases hg; omega)).trans (k3.mono (by simp; exact Nat.le_trans hB.size b2.size))
                  have hC3 : CellsAt (((w2.setCell ⟨P, 2, none⟩ (.slice (some ⟨qb, qo + 2, none⟩) qj.length (cq - 1))).alloc (.cells #[.int .i64 ht, .int .i64 hm] 131)).alloc (.cells #[.int .i64 ht] 2)) (some ⟨w2.heap.size + 1, 0, none⟩) (1 * 1) (icells [ht]) := by
                    have := new_int ((w2.setCell ⟨P, 2, none⟩ (.slice (some ⟨qb, qo + 2, none⟩) qj.length (cq - 1))).alloc (.cells #[.int .i64 ht, .int .i64 hm] 131)) ht 2
                    rwa [show ((w2.setCell ⟨P, 2, none⟩ (.slice (some ⟨qb, qo + 2, none⟩) qj.length (cq - 1))).alloc (.cells #[.int .i64 ht, .int .i64 hm] 131)).heap.size = w2.heap.size + 1 by simp] at this
                  have z0 : (((w2.setCell ⟨P, 2, none⟩ (.slice (some ⟨qb, qo + 2, none⟩) qj.length (cq - 1))).alloc (.cells #[.int .i64 ht, .int .i64 hm] 131)).alloc (.cells #[.int .i64 ht] 2)).cell? ⟨w2.heap.size, 0, none⟩ = some (.int .i64 ht) := by simp [go_sem]
                  have z1 : (((w2.setCell ⟨P, 2, none⟩ (.slice (some ⟨qb, qo + 2, none⟩) qj.length (cq - 1))).alloc (.cells #[.int .i64 ht, .int .i64 hm] 131)).alloc (.cells #[.int .i64 ht] 2)).cell? ⟨w2.heap.size, 1, none⟩ = some (.int .i64 hm) := by simp [go_sem]
                  have hsz4 : w2.heap.size < (((w2.setCell ⟨P, 2, none⟩ (.slice (some ⟨qb, qo + 2, none⟩) qj.length (cq - 1))).alloc (.cells #[.int .i64 ht, .int .i64 hm] 131)).alloc (.cells #[.int .i64 ht] 2)).heap.size := by simp; omega
                  have hsum : m + 1 ≤ 4194304 := by have := HMM.out; simp at this; omega
                  have hb4 : w.heap.size ≤ (((w2.setCell ⟨P, 2, none⟩ (.slice (some ⟨qb, qo + 2, none⟩) qj.length (cq - 1))).alloc (.cells #[.int .i64 ht, .int .i64 hm] 131)).alloc (.cells #[.int .i64 ht] 2)).heap.size := hBT.size
                  have hni : (Value.slice ai m ci).ownBlock ≠ some w2.heap.size := fun e => by have := (owns_lt oi _ e).2; omega
                  have hLx : hj.length ≤ 1048576 := by have := HS40.out; omega
                  have IL := fun W hW => l6At_any ah hj.length ch ht hj W hW hLx
                  go_wp2_with (at_builtin; go_must (refine wpList_appX Try.underlying49 Try.underlying49 hi0 hz0 hz1 hz2I rfl (by omega) (by omega) (.tmp 49) (.tmp 52) ?_ ?_ w.heap.size (.slice ai m ci) m (icells pre) _ 1 1 (icells [ht]) ?_ ?_ oi3 hC3 (icells_one' [ht]) hsum hb4 ?_; exact rfl; exact rfl; exact rfl; exact rfl; intro a5 c5 w5 own5 gr5 at5; have hP5 := gr_heap gr5 hP3 (fun e => (hid' P e).1 rfl); obtain ⟨⟨v0, v1, v2⟩, y0, y1, y2⟩ := row3 hP5; have lv := lt_of_cell v0; have x0 := grown_cell gr5 z0 hni; have x1 := grown_cell gr5 z1 hni; have lx := lt_of_cell x0; have ox5 := owns_grown ox3 gr5 (fun g hg e => (hid' g e).2.1 hg)))
                  refine (IL _ (owns_cells ox5)).mono ?_
                  rintro e w6 ⟨rfl, hw6⟩
                  obtain rfl := hw6.symm
                  rw [HAT]
                  have oy5 := owns_grown oy3 gr5 (fun g hg e => (hid' g e).2.2.1 hg)
                  have rk5 := rk3.other gr5 (fun g hg => (hid' g hg).2.2.2)
                  have hB5 := hBT.grown gr5 hb4 (fun g hg => (owns_lt oi3 g hg).1)
                  have hz5 := gr5.size
                  have kN : Below w5.heap.size w5 (w5.alloc (.cells #[.int .i64 ht, .int .i64 hm] 131)) := (Below.refl _ _).alloc (Nat.le_refl _) _
                  have ox6 := owns_below ox5 kN
                  have hb6 : H0 ≤ (w5.alloc (.cells #[.int .i64 ht, .int .i64 hm] 131)).heap.size := by have := kN.size; omega
                  have hC6 := new_hold w5 ht hm 131
                  have hsum6 : hj.length + 1 ≤ 4194304 := by omega
                  have hP6 := heap_below kN hP5
                  go_wp2_with (at_builtin; go_must (refine wpList_appX Try.underlying127 Try.underlying127 hi2 hx0 hx1' hx2 rfl (by omega) (by omega) (.tmp 69) (.tmp 71) ?_ ?_ H0 (.slice ah hj.length ch) hj.length (hcells hj) _ 1 1 (hcells [⟨ht, hm⟩]) ?_ ?_ ox6 hC6 (hcells_one' _) hsum6 hb6 ?_; exact rfl; exact rfl; exact rfl; exact rfl; intro a7 c7 w7 own7 gr7 at7; have hP7 := gr_heap gr7 hP6 (fun e => (hxd P e).1 rfl); obtain ⟨⟨s0, s1, s2⟩, t0, t1, t2⟩ := row3 hP7; have ls := lt_of_cell s0))
                  go_roundw
                  case rel =>
                    rw [← hcells_append] at own7
                    have g8 := grown_set w7 P 1 (.slice a7 (hj.length + 1) c7)
                    have hz7 := gr7.size
                    have hzN : w5.heap.size < (w5.alloc (.cells #[.int .i64 ht, .int .i64 hm] 131)).heap.size := by simp
                    have hx7 : ∀ g, (Value.slice a7 (hj.length + 1) c7).ownBlock = some g → g ≠ P ∧ (Value.slice a2 (Ch.withoutH lqs t).length d2).ownBlock ≠ some g := fun g hg => by
                      rcases at7 g hg with h1 | h1
                      · exact hxd g h1
                      · exact ⟨by omega, fun e => by have := (owns_lt oy g e).2; omega⟩
                    have hi7 : ∀ g, (Value.slice a5 (m + 1) c5).ownBlock = some g → g ≠ P ∧ (Value.slice ah hj.length ch).ownBlock ≠ some g ∧ (Value.slice a2 (Ch.withoutH lqs t).length d2).ownBlock ≠ some g ∧ g ∉ (Value.slice ao mo co).ownBlock.toList ++ vo.flatMap rblk := fun g hg => by
                      rcases at5 g hg with h1 | h1
                      · exact hid' g h1
                      · exact ⟨by omega, fun e => by have := (owns_lt ox g e).2; omega, fun e => by have := (owns_lt oy g e).2; omega, fun hm' => by have := hrkH g hm'; omega⟩
                    rw [← icells_append] at own5
                    have oi7 := owns_grown (owns_grown (owns_below own5 kN) gr7 (fun g hg e => (hi7 g hg).2.1 e)) g8 (fun g hg e => by cases e; exact (hi7 P hg).1 rfl)
                    have oy7 := owns_grown (owns_grown (owns_below oy5 kN) gr7 (fun g hg e => (hxd g e).2 hg)) g8 (fun g hg e => by cases e; exact hyP P hg rfl)
                    have rk7 := ((rk5.below kN).other gr7 (fun g hg hm' => by have := hrkH g hm'; have := (owns_lt ox g hg).1; omega)).other g8 (fun g hg hm' => by cases hg; have := hrkH P hm'; omega)
                    have hB6 := hB5.trans (kN.mono hB5.size)
                    have hB7 := hB6.grown gr7 hB6.size (fun g hg => by have := (owns_lt ox g hg).1; omega)
                    have hB8 := hB7.grown g8 hB7.size (fun g hg => by cases hg; omega)
                    have hP8 : (w7.setCell ⟨P, 1, none⟩ (.slice a7 (hj.length + 1) c7)).heap[P]? = some (.cells #[.int .i64 r, .slice a7 (hj.length + 1) c7, .slice (some ⟨qb, qo + 2, none⟩) qj.length (cq - 1)] 129 (0, 0)) := by
                      have := Joins.block_setCell (i := 1) hP7 (.slice a7 (hj.length + 1) c7)
                      simpa using this
                    have own8 := owns_grown own7 g8 (fun g hg e => by cases e; exact (hx7 P hg).1 rfl)
                    have hlen : (hj ++ [(⟨ht, hm⟩ : Ch.Hold)]).length = hj.length + 1 := by simp
                    refine ⟨hj ++ [⟨ht, hm⟩], qj, m + 1, a5, c5, a7, c7, (some ⟨qb, qo + 2, none⟩), cq - 1, pre ++ [ht], rfl, by rw [hlen]; exact hP8, by rw [hlen]; exact own8, oy7, fun W hW => by have h1 := (HCQ.out W hW).hdrop 1 (by simp); simpa using h1, by omega, hqb.tail hc3, by rw [hlen]; exact hx7, oi7, fun g hg => by rw [hlen]; exact ⟨(hi7 g hg).1, fun e => (at7 g e).elim (fun h1 => (hi7 g hg).2.1 h1) (fun h1 => by have := (owns_lt own5 g hg).2; omega), (hi7 g hg).2.2.1, (hi7 g hg).2.2.2⟩, rk7, ?_, HNT.out, ?_, ?_, ?_, by simp; omega, hB8⟩
                    · rw [← HPUT.out]; exact Ch.putH_names HNJ.out HNH.out
                    · have h1 := HAD.out
                      rw [HE.out] at h1
                      show _ ∧ _
                      rw [← HPUT.out]
                      exact ⟨by rw [h1.1]; simp, h1.2⟩
                    · have h1 := HS40.out; have h2 := Ch.putH_len hj ⟨ht, hm⟩; rw [HPUT.out] at h2; simp at h1; show _ ≤ _; omega
                    · have h1 := HMM.out; simp at h1; show _ = _; omega
                  case measure => have h1 := HMM.out; simp at h1; simp [lenV]; omega
                · have HPUT := hid (Ch.putH_yes (h := ⟨ht, hm⟩) he HAT)
                  have HTJ := hid htj
                  clear he
                  obtain ⟨xb, rfl⟩ : ∃ xb, ah = some ⟨xb, 0, none⟩ := by
                    rcases ox.2 with ⟨hv, h0⟩ | ⟨g, cp, cur, hv, _⟩
                    · omega
                    · simp only [Value.slice.injEq, true_and] at hv
                      exact ⟨g, hv.1⟩
                  have hxb := owns_lt ox xb rfl
                  have g3 := grown_set w2 P 2 (.slice (some ⟨qb, qo + 2, none⟩) qj.length (cq - 1))
                  have k3 : Below (w2.setCell ⟨P, 2, none⟩ (.slice (some ⟨qb, qo + 2, none⟩) qj.length (cq - 1))).heap.size (w2.setCell ⟨P, 2, none⟩ (.slice (some ⟨qb, qo + 2, none⟩) qj.length (cq - 1))) (((w2.setCell ⟨P, 2, none⟩ (.slice (some ⟨qb, qo + 2, none⟩) qj.length (cq - 1))).alloc (.cells #[.int .i64 ht, .int .i64 hm] 131)).alloc (.cells #[.int .i64 ht] 2)) := ((Below.refl _ _).alloc (Nat.le_refl _) _).alloc (by simp) _
                  have hP3 : (((w2.setCell ⟨P, 2, none⟩ (.slice (some ⟨qb, qo + 2, none⟩) qj.length (cq - 1))).alloc (.cells #[.int .i64 ht, .int .i64 hm] 131)).alloc (.cells #[.int .i64 ht] 2)).heap[P]? = some (.cells #[.int .i64 r, .slice (some ⟨xb, 0, none⟩) hj.length ch, .slice (some ⟨qb, qo + 2, none⟩) qj.length (cq - 1)] 129 (0, 0)) := heap_below k3 (by have := Joins.block_setCell (i := 2) hP2 (.slice (some ⟨qb, qo + 2, none⟩) qj.length (cq - 1)); simpa using this)
                  have ox3 := owns_below (owns_grown (owns_below ox b2) g3 (fun g hg e => by cases e; exact (hxd P hg).1 rfl)) k3
                  have oy3 := owns_below (owns_grown (owns_below oy b2) g3 (fun g hg e => by cases e; exact hyP P hg rfl)) k3
                  have oi3 := owns_below (owns_grown (owns_below oi b2) g3 (fun g hg e => by cases e; exact (hid' P hg).1 rfl)) k3
                  have rk3 := ((rk.below b2).other g3 (fun g hg hm => by cases hg; have := hrkH P hm; omega)).below k3
                  have hBT : Below w.heap.size w (((w2.setCell ⟨P, 2, none⟩ (.slice (some ⟨qb, qo + 2, none⟩) qj.length (cq - 1))).alloc (.cells #[.int .i64 ht, .int .i64 hm] 131)).alloc (.cells #[.int .i64 ht] 2)) := ((hB.trans (b2.mono hB.size)).grown g3 (Nat.le_trans hB.size b2.size) (fun g hg => by cases hg; omega)).trans (k3.mono (by simp; exact Nat.le_trans hB.size b2.size))
                  have hC3 : CellsAt (((w2.setCell ⟨P, 2, none⟩ (.slice (some ⟨qb, qo + 2, none⟩) qj.length (cq - 1))).alloc (.cells #[.int .i64 ht, .int .i64 hm] 131)).alloc (.cells #[.int .i64 ht] 2)) (some ⟨w2.heap.size + 1, 0, none⟩) (1 * 1) (icells [ht]) := by
                    have := new_int ((w2.setCell ⟨P, 2, none⟩ (.slice (some ⟨qb, qo + 2, none⟩) qj.length (cq - 1))).alloc (.cells #[.int .i64 ht, .int .i64 hm] 131)) ht 2
                    rwa [show ((w2.setCell ⟨P, 2, none⟩ (.slice (some ⟨qb, qo + 2, none⟩) qj.length (cq - 1))).alloc (.cells #[.int .i64 ht, .int .i64 hm] 131)).heap.size = w2.heap.size + 1 by simp] at this
                  have z0 : (((w2.setCell ⟨P, 2, none⟩ (.slice (some ⟨qb, qo + 2, none⟩) qj.length (cq - 1))).alloc (.cells #[.int .i64 ht, .int .i64 hm] 131)).alloc (.cells #[.int .i64 ht] 2)).cell? ⟨w2.heap.size, 0, none⟩ = some (.int .i64 ht) := by simp [go_sem]
                  have z1 : (((w2.setCell ⟨P, 2, none⟩ (.slice (some ⟨qb, qo + 2, none⟩) qj.length (cq - 1))).alloc (.cells #[.int .i64 ht, .int .i64 hm] 131)).alloc (.cells #[.int .i64 ht] 2)).cell? ⟨w2.heap.size, 1, none⟩ = some (.int .i64 hm) := by simp [go_sem]
                  have hsz4 : w2.heap.size < (((w2.setCell ⟨P, 2, none⟩ (.slice (some ⟨qb, qo + 2, none⟩) qj.length (cq - 1))).alloc (.cells #[.int .i64 ht, .int .i64 hm] 131)).alloc (.cells #[.int .i64 ht] 2)).heap.size := by simp; omega
                  have hsum : m + 1 ≤ 4194304 := by have := HMM.out; simp at this; omega
                  have hb4 : w.heap.size ≤ (((w2.setCell ⟨P, 2, none⟩ (.slice (some ⟨qb, qo + 2, none⟩) qj.length (cq - 1))).alloc (.cells #[.int .i64 ht, .int .i64 hm] 131)).alloc (.cells #[.int .i64 ht] 2)).heap.size := hBT.size
                  have hni : (Value.slice ai m ci).ownBlock ≠ some w2.heap.size := fun e => by have := (owns_lt oi _ e).2; omega
                  have hLx : hj.length ≤ 1048576 := by have := HS40.out; omega
                  have IL := fun W hW => l6At_any (some ⟨xb, 0, none⟩) hj.length ch ht hj W hW hLx
                  go_wp2_with (at_builtin; go_must (refine wpList_appX Try.underlying49 Try.underlying49 hi0 hz0 hz1 hz2I rfl (by omega) (by omega) (.tmp 49) (.tmp 52) ?_ ?_ w.heap.size (.slice ai m ci) m (icells pre) _ 1 1 (icells [ht]) ?_ ?_ oi3 hC3 (icells_one' [ht]) hsum hb4 ?_; exact rfl; exact rfl; exact rfl; exact rfl; intro a5 c5 w5 own5 gr5 at5; have hP5 := gr_heap gr5 hP3 (fun e => (hid' P e).1 rfl); obtain ⟨⟨v0, v1, v2⟩, y0, y1, y2⟩ := row3 hP5; have lv := lt_of_cell v0; have x0 := grown_cell gr5 z0 hni; have x1 := grown_cell gr5 z1 hni; have lx := lt_of_cell x0; have ox5 := owns_grown ox3 gr5 (fun g hg e => (hid' g e).2.1 hg)))
                  refine (IL _ (owns_cells ox5)).mono ?_
                  rintro e w6 ⟨rfl, hw6⟩
                  obtain rfl := hw6.symm
                  rw [HAT]
                  have oy5 := owns_grown oy3 gr5 (fun g hg e => (hid' g e).2.2.1 hg)
                  have rk5 := rk3.other gr5 (fun g hg => (hid' g hg).2.2.2)
                  have hB5 := hBT.grown gr5 hb4 (fun g hg => (owns_lt oi3 g hg).1)
                  have hz5 := gr5.size
                  have ff := ox5.frozenAt (j * 2 + 1)
                  obtain ⟨uu, hu⟩ := owns_some ox5 (j := j * 2 + 1) (by omega)
                  have lxb := lt_of_cell hu
                  have hst := ox5.stored (j * 2 + 1) (.int .i64 hm)
                  rw [hcells_setm hj j ⟨ht, hm⟩ hjl HTJ.out] at hst
                  have hxP : ¬ P = xb := fun e => (hxd xb rfl).1 e.symm
                  go_wp2
                  go_roundw
                  case rel =>
                    have hlen : (hj.set j ⟨ht, hm⟩).length = hj.length := by simp
                    refine ⟨hj.set j ⟨ht, hm⟩, qj, m + 1, a5, c5, some ⟨xb, 0, none⟩, ch, (some ⟨qb, qo + 2, none⟩), cq - 1, pre ++ [ht], rfl, by rw [hlen]; exact gr_heap hst.2 hP5 (by simpa using fun e => hxP e.symm), by rw [hlen]; exact hst.1, owns_grown oy5 hst.2 (fun g hg e => by cases e; exact (hxd _ rfl).2 hg), fun W hW => by have h1 := (HCQ.out W hW).hdrop 1 (by simp); simpa using h1, by omega, hqb.tail hc3, by rw [hlen]; exact hxd, by rw [← icells_append] at own5; exact owns_grown own5 hst.2 (fun g hg e => by cases e; exact (at5 _ hg).elim (fun h1 => (hid' _ h1).2.1 rfl) (fun h1 => by omega)), fun g hg => by rw [hlen]; exact (at5 g hg).elim (fun h1 => hid' g h1) (fun h1 => ⟨by omega, fun e => by have := (owns_lt ox g e).2; omega, fun e => by have := (owns_lt oy g e).2; omega, fun hm' => by have := hrkH g hm'; omega⟩), rk5.other hst.2 (fun g hg hm' => by cases hg; have := hrkH _ hm'; have := hxb.1; omega), ?_, HNT.out, ?_, ?_, ?_, by simp; omega, hB5.grown hst.2 hB5.size (fun g hg => by cases hg; have := hxb.1; omega)⟩
                    · rw [← HPUT.out]; exact Ch.putH_names HNJ.out HNH.out
                    · have h1 := HAD.out
                      rw [HE.out] at h1
                      show _ ∧ _
                      rw [← HPUT.out]
                      exact ⟨by rw [h1.1]; simp, h1.2⟩
                    · have h1 := HS40.out; have h2 := Ch.putH_len hj ⟨ht, hm⟩; rw [HPUT.out] at h2; simp at h1; show _ ≤ _; omega
                    · have h1 := HMM.out; simp at h1; show _ = _; omega
                  case measure => have h1 := HMM.out; simp at h1; simp [lenV]; omega
    · obtain rfl : k = n := by omega
      have HWF : Hid (ls.take k = ls) := by have := HL.out; show _ = _; rw [this]; exact List.take_length
      rw [HWF.out] at rk oi
      go_wp2
      exact bodyPost_ret (v := .tuple #[.slice ao mo co, .slice a' m0 c']) (by simp [results, Try.results178, go_sem]) rfl ⟨a', m0, c', ao, mo, co, rfl, oi, by omega, ⟨_, rk⟩, hB⟩
theorem l6Free_any (a : Option Addr) (n cap : Nat) (t : Int) (ls : List Ch.Lock) (w : World) (h : LkAt w a n ls) (hfew : n ≤ 101) (hg : ∀ i, i < n → (Ch.lkAt ls i).hs.length ≤ 20 ∧ (Ch.lkAt ls i).qs.length ≤ 20 ∧ Ch.namesH (Ch.lkAt ls i).hs = true ∧ Ch.namesH (Ch.lkAt ls i).qs = true) :
    Calls Try.prog 178 #[.slice a n cap, .int .i64 t] w fun e w' => ∃ a1 m1 c1 a2 m2 c2, e = .returned (.tuple #[.slice a2 m2 c2, .slice a1 m1 c1]) ∧ w'.ownsRow w.heap.size 2 1 (.slice a1 m1 c1) m1 (icells (Ch.freeInts ls t)) ∧ m1 ≤ 1048576 ∧ LkIn w.heap.size w'.heap.size w' a2 m2 ((Ch.freeAll ls t).filter Ch.usedL) ∧ Below w.heap.size w w' := by
  refine (l6FreeK_any a n cap t ls w h hfew hg).mono ?_
  rintro e w' ⟨a1, m1, c1, a2, m2, c2, rfl, h1, h2, ⟨vs, h3⟩, h4⟩
  exact ⟨a1, m1, c1, a2, m2, c2, rfl, h1, h2, h3.lkIn, h4⟩
end Go.Proofs.Ytjagobcogkdfhaa
