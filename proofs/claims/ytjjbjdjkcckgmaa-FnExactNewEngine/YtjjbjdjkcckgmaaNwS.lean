
/- A new store: the model. -/
import Derived.Test.YtjjbjdjkcckgmaaNwI
import Derived.Test.YtjjbjdjkcckgmaaPutE
import Derived.Test.YtjjbjdjkcckgmaaAppX
import Derived.Lib.SmallJoins
namespace Go.Proofs.Ytjjbjdjkcckgmaa
open Go.RowKit

theorem row10 {W : World} {g : Nat} {t : TypeId} {u0 u1 u2 u3 u4 u5 u6 u7 u8 u9 : Value} (h : W.heap[g]? = some (.cells #[u0, u1, u2, u3, u4, u5, u6, u7, u8, u9] t (0, 0))) :
    W.cell? ⟨g, 0, none⟩ = some u0 ∧ W.cell? ⟨g, 1, none⟩ = some u1 ∧ W.cell? ⟨g, 2, none⟩ = some u2 ∧ W.cell? ⟨g, 3, none⟩ = some u3 ∧ W.cell? ⟨g, 4, none⟩ = some u4 ∧ W.cell? ⟨g, 5, none⟩ = some u5 ∧ W.cell? ⟨g, 6, none⟩ = some u6 ∧ W.cell? ⟨g, 7, none⟩ = some u7 ∧ W.cell? ⟨g, 8, none⟩ = some u8 ∧ W.cell? ⟨g, 9, none⟩ = some u9 ∧ ∀ i, W.frozen? ⟨g, i, none⟩ = false :=
  ⟨cell_of_row _ _ _ _ _ _ h, cell_of_row _ _ _ _ _ _ h, cell_of_row _ _ _ _ _ _ h, cell_of_row _ _ _ _ _ _ h, cell_of_row _ _ _ _ _ _ h, cell_of_row _ _ _ _ _ _ h, cell_of_row _ _ _ _ _ _ h, cell_of_row _ _ _ _ _ _ h, cell_of_row _ _ _ _ _ _ h, cell_of_row _ _ _ _ _ _ h, fun i => by simp [World.frozen?, h]⟩
theorem rcells_oneN (rs : List Ch.Row) : ∀ u ∈ rcells rs, u.oneCell' = true := by
  intro u hu
  unfold rcells at hu
  obtain ⟨r, _, hr⟩ := List.mem_flatMap.1 hu
  simp only [List.mem_cons, List.not_mem_nil, or_false] at hr
  rcases hr with rfl | rfl | rfl <;> rfl

def NewS (rs : List Ch.Row) (w : World) (e : Ending) (w' : World) : Prop :=
  ∃ a n c l m d, e = .returned (.agg #[.int .i64 (Ch.newR rs).1, .bool false, .int .i64 0, .slice none 0 0, .slice none 0 0, (.slice a n c), (.slice l m d), .slice none 0 0, .slice none 0 0, .slice none 0 0, .slice none 0 0, .slice none 0 0, .bool false, .slice none 0 0, .slice none 0 0]) ∧ n ≤ 1048576 ∧ CellsAt w' a (n * 3) (rcells (Ch.newR rs).2.1) ∧ LvAt w' l m (Ch.newR rs).2.2 ∧ Below w.heap.size w w'
theorem lvAt_nil (w : World) : LvAt w none 0 [] := ⟨rfl, [], ⟨rfl, fun h => by omega⟩, fun i hi => by omega⟩
theorem NewS.code {rs : List Ch.Row} {w w' : World} {c : Int} (h : Ch.newR rs = (c, [], [])) (hb : Below w.heap.size w w') : NewS rs w (.returned (.agg #[.int .i64 c, .bool false, .int .i64 0, .slice none 0 0, .slice none 0 0, .slice none 0 0, .slice none 0 0, .slice none 0 0, .slice none 0 0, .slice none 0 0, .slice none 0 0, .slice none 0 0, .bool false, .slice none 0 0, .slice none 0 0])) w' := by
  unfold NewS
  rw [h]
  exact ⟨none, 0, 0, none, 0, 0, rfl, by omega, ⟨rfl, fun h => by omega⟩, lvAt_nil _, hb⟩
theorem NewS.ok {rs : List Ch.Row} {ls : List (List Ch.Row)} {w w' : World} {a l : Option Addr} {n c m d : Nat} (h : Ch.newR rs = (0, rs, ls)) (hn : n ≤ 1048576) (h3 : CellsAt w' a (n * 3) (rcells rs)) (h4 : LvAt w' l m ls) (h7 : Below w.heap.size w w') : NewS rs w (.returned (.agg #[.int .i64 0, .bool false, .int .i64 0, .slice none 0 0, .slice none 0 0, (.slice a n c), (.slice l m d), .slice none 0 0, .slice none 0 0, .slice none 0 0, .slice none 0 0, .slice none 0 0, .bool false, .slice none 0 0, .slice none 0 0])) w' := by
  unfold NewS
  rw [h]
  exact ⟨a, n, c, l, m, d, rfl, hn, h3, h4, h7⟩

set_option linter.unusedSimpArgs false in
set_option maxRecDepth 20000 in
set_option maxHeartbeats 4000000 in
theorem specNew_any (ad : Addr) (n cap : Nat) (rs : List Ch.Row) (w : World) (h : CellsAt w (some ad) (n * 3) (rcells rs)) (hn : n ≤ 1048576) :
    Calls Try.prog 5 #[.slice (some ad) n cap] w fun e w' => NewS rs w e w' := by
  have kA : ∀ o, Below w.heap.size w (w.alloc o) := fun o => (Below.refl _ _).alloc (Nat.le_refl _) o
  have HL := h.rlen
  have IB := fun W hW => specBase_any (some ad) n cap rs W hW hn
  obtain ⟨c, HC⟩ : ∃ c, Hid (Ch.baseF rs = c) := ⟨_, rfl⟩
  rw [HC.out] at IB
  by_cases h0 : c = 0
  rotate_left
  · have hc : (c != 0) = true := by simpa using h0
    have HN := hid (Ch.newR_bad HC.out hc)
    clear HC h0 HL
    go_enter Try.func5, Try.ntmps5
    go_wp2_with fail
    refine (IB _ (h.below (kA _))).mono ?_
    rintro e w1 ⟨rfl, b1⟩
    have hR := block_below b1 (heap_alloc_new w (.cells #[.int .i64 0, .bool false, .int .i64 0, .slice none 0 0, .slice none 0 0, .slice none 0 0, .slice none 0 0, .slice none 0 0, .slice none 0 0, .slice none 0 0, .slice none 0 0, .slice none 0 0, .bool false, .slice none 0 0, .slice none 0 0] 37))
    have b1' := (kA _).trans (b1.mono (by simp))
    clear IB b1
    go_wp2_with fail
    refine (bad_any c _).mono ?_
    rintro e w2 ⟨rfl, b2⟩
    have hR2 := block_below b2 hR
    have b2' := b1'.trans (b2.mono b1'.size)
    obtain ⟨x0, x1, x2, x3, x4, x5, x6, x7, x8, x9, x10, x11, x12, x13, x14, hfz⟩ := row15 hR2
    clear hR hR2 b2 b1'
    go_wp2
    refine bodyPost_ret (v := .agg #[.int .i64 c, .bool false, .int .i64 0, .slice none 0 0, .slice none 0 0, .slice none 0 0, .slice none 0 0, .slice none 0 0, .slice none 0 0, .slice none 0 0, .slice none 0 0, .slice none 0 0, .bool false, .slice none 0 0, .slice none 0 0]) (by simp [results, Try.results5, go_sem, x0, x1, x2, x3, x4, x5, x6, x7, x8, x9, x10, x11, x12, x13, x14]) rfl (NewS.code HN.out ?_)
    refine b2'.grown (row := some w.heap.size) ?_ b2'.size (fun g hg => by cases hg; exact Nat.le_refl _)
    repeat (first | with_reducible exact gr_reflN _ _ | with_reducible refine gr_setN ?_)
  subst h0
  have hn4 : n ≤ 240 := by have := (Ch.base_zero HC.out).2.1; have := HL.out; omega
  obtain ⟨i0, hi0, hz0, hz1, hz2⟩ := info_parts Try.info49
  go_enter Try.func5, Try.ntmps5
  go_wp2_with fail
  refine (IB _ (h.below (kA _))).mono ?_
  rintro e w1 ⟨rfl, b1⟩
  have hR := block_below b1 (heap_alloc_new w (.cells #[.int .i64 0, .bool false, .int .i64 0, .slice none 0 0, .slice none 0 0, .slice none 0 0, .slice none 0 0, .slice none 0 0, .slice none 0 0, .slice none 0 0, .slice none 0 0, .slice none 0 0, .bool false, .slice none 0 0, .slice none 0 0] 37))
  have b1' := (kA _).trans (b1.mono (by simp))
  have lR := (Array.getElem?_eq_some_iff.1 hR).1
  clear IB b1
  have kE : Below w1.heap.size w1 (w1.alloc (.cells #[] 49)) := (Below.refl _ _).alloc (Nat.le_refl _) _
  have oE : (w1.alloc (.cells #[] 49)).ownsRow w1.heap.size 49 3 (.slice (some ⟨w1.heap.size, 0, none⟩) 0 0) 0 [] := World.ownsRow_lit w1 #[] 0 (Nat.le_refl _) (by unfold maxLen; omega) (by simp)
  have bE := b1'.trans (kE.mono b1'.size)
  go_wp2_with (at_builtin; go_must (refine wpList_appX Try.underlying25 Try.underlying25 hi0 hz0 hz1 hz2 rfl (by omega) (by omega) (.tmp 12) (.tmp 13) ?_ ?_ w1.heap.size (.slice (some ⟨w1.heap.size, 0, none⟩) 0 0) 0 [] (some ad) n cap (rcells rs) ?_ ?_ oE (h.below bE) (rcells_oneN _) (by omega) kE.size ?_; exact rfl; exact rfl; exact rfl; exact rfl; intro a2 c2 w2 ob gr2 at2))
  rw [Nat.zero_add, List.nil_append] at ob
  have b2' := bE.grown gr2 bE.size (fun g hg => by have := (owns_lt oE g hg).1; have := b1'.size; omega)
  have hR2 := block_grown gr2 (block_below kE hR) (own_apart oE lR)
  have hbx : ∀ g, (Value.slice a2 n c2).ownBlock = some g → w1.heap.size ≤ g ∧ g < w2.heap.size := fun g hg => owns_lt ob g hg
  have kX : Below w2.heap.size w2 (w2.alloc (.cells #[.slice a2 n c2, .slice none 0 0, .slice none 0 0, .slice none 0 0, .slice none 0 0, .slice none 0 0, .slice none 0 0, .bool false, .slice none 0 0, .slice none 0 0] 35)) := (Below.refl _ _).alloc (Nat.le_refl _) _
  have hX := heap_alloc_new w2 (.cells #[.slice a2 n c2, .slice none 0 0, .slice none 0 0, .slice none 0 0, .slice none 0 0, .slice none 0 0, .slice none 0 0, .bool false, .slice none 0 0, .slice none 0 0] 35)
  have hR3 := block_below kX hR2
  have ob3 := owns_below ob kX
  have b3 := b2'.trans (kX.mono b2'.size)
  have l2 : w1.heap.size ≤ w2.heap.size := by have := gr2.size; simp at this; omega
  clear oE kE bE gr2 at2 hR hR2 b2' ob kX
  go_wp2_with fail
  go_loopw [5] (fun i wr => ∃ (k m d : Nat) (l : Option Addr), k ≤ n ∧ i = .int .i64 k ∧ Hid (Ch.roomN rs k) ∧ wr.heap[w2.heap.size]? = some (.cells #[.slice a2 n c2, .slice l m d, .slice none 0 0, .slice none 0 0, .slice none 0 0, .slice none 0 0, .slice none 0 0, .bool false, .slice none 0 0, .slice none 0 0] 35 (0, 0)) ∧ OwnLv wr (w2.heap.size + 1) (.slice l m d) m (Ch.putN rs k) ∧ wr.ownsRow w1.heap.size 49 3 (.slice a2 n c2) n (rcells rs) ∧ wr.heap[w.heap.size]? = some (.cells #[.int .i64 0, .bool false, .int .i64 0, .slice none 0 0, .slice none 0 0, .slice none 0 0, .slice none 0 0, .slice none 0 0, .slice none 0 0, .slice none 0 0, .slice none 0 0, .slice none 0 0, .bool false, .slice none 0 0, .slice none 0 0] 37 (0, 0)) ∧ Below w.heap.size w wr) (fun i _ => n - (intOf i).toNat)
  case atStart => exact ⟨0, 0, 0, none, Nat.zero_le _, rfl, hid (Ch.room_zero rs), hX, (ownV_nil _ _).own, ob3, hR3, b3⟩
  case round =>
    clear hX ob3 hR3 b3
    obtain ⟨k, m, d, l, hk, rfl, HRM, hX, own, ob, hR, hB⟩ := hrel
    have lR2 := (Array.getElem?_eq_some_iff.1 hR).1
    have lX := (Array.getElem?_eq_some_iff.1 hX).1
    obtain ⟨y0, y1, y2, y3, y4, y5, y6, y7, y8, y9, hyz⟩ := row10 hX
    have HG := hid (Ch.putN_good HC.out k (by have := HL.out; omega) HRM.out)
    have hsz : Ch.lvSize (Ch.putN rs k) ≤ 1048576 := by have := Ch.good_size HG.out; omega
    have hAt : LvAt wr l m (Ch.putN rs k) := own.at (fun i => by have := Ch.lv_leaf hsz i; omega)
    by_cases hlt : k < n
    · have hkl : k < rs.length := by have := HL.out; omega
      have HMA := hid (fun hl => Ch.newR_many HC.out hkl hl)
      have HNX := hid (fun hl => Ch.room_next HRM.out hl)
      have HPN : Hid (Ch.putN rs (k + 1) = Ch.put (Ch.putN rs k) (rs.getD k Ch.Row.zero)) := rfl
      have hPL : (Ch.putN rs (k + 1)).length ≤ 61 := Ch.put_len HG.out
      obtain ⟨b, off, hao, hc0, hc1, hc2⟩ := (h.below hB).row hlt
      have hbw : b < w.heap.size := by
        obtain ⟨b', off', hbo, hq, _⟩ := h.row hlt
        rw [hao] at hbo
        simp only [Option.some.injEq, Addr.mk.injEq, and_true] at hbo
        rw [hbo.1]
        exact lt_of_cell hq
      have hbl := lt_of_cell hc0
      generalize rs.getD k Ch.Row.zero = r at *
      obtain ⟨rk, rv, rg⟩ := r
      simp only at hc0 hc1 hc2
      simp only [Option.some.injEq] at hao
      subst hao
      have IP := specPut_any l m d (Ch.putN rs k) rk rv rg wr.drew (show LvAt wr.drew l m _ from hAt) hsz HG.out
      rw [← HPN.out] at IP
      clear HG hsz hAt own HPN
      go_wp2_with fail
      refine wp_region_noPanic ?_
      refine wp_region_held_drew (S := fun W' => W'.cell? ⟨b, off + k * 3, none⟩ = some (.int .i64 rk) ∧ W'.cell? ⟨b, off + k * 3 + 1, none⟩ = some (.int .i64 rv) ∧ W'.cell? ⟨b, off + k * 3 + 2, none⟩ = some (.bool rg)) (by kernel_rfl) (⟨hc0, hc1, hc2⟩) (fun hH => ?_)
      refine hTake (i := 0) (v := ?_) rfl (by kernel_rfl) (by kernel_rfl) (by kernel_rfl) (by rfl) ?_ hH ?_
      rotate_left
      · intro W hW; (try dsimp only at hW); go_simp <;> with_reducible rfl
      simp only [Act.put, List.setIfInBounds_toArray, List.set_cons_zero, List.set_cons_succ]
      refine hTake (i := 2) (v := ?_) rfl (by kernel_rfl) (by kernel_rfl) (by kernel_rfl) (by rfl) ?_ hH ?_
      rotate_left
      · intro W hW; (try dsimp only at hW); go_simp <;> with_reducible rfl
      simp only [Act.put, List.setIfInBounds_toArray, List.set_cons_zero, List.set_cons_succ]
      refine hTake (i := 3) (v := ?_) rfl (by kernel_rfl) (by kernel_rfl) (by kernel_rfl) (by rfl) ?_ hH ?_
      rotate_left
      · intro W hW; (try dsimp only at hW); go_simp <;> with_reducible rfl
      simp only [Act.put, List.setIfInBounds_toArray, List.set_cons_zero, List.set_cons_succ]
      refine hTake (i := 4) (v := ?_) rfl (by kernel_rfl) (by kernel_rfl) (by kernel_rfl) (by rfl) ?_ hH ?_
      rotate_left
      · intro W hW; (try dsimp only at hW); go_simp <;> with_reducible rfl
      simp only [Act.put, List.setIfInBounds_toArray, List.set_cons_zero, List.set_cons_succ]
      refine hTake (i := 5) (v := ?_) rfl (by kernel_rfl) (by kernel_rfl) (by kernel_rfl) (by rfl) ?_ hH ?_
      rotate_left
      · intro W hW; (try dsimp only at hW); go_simp <;> with_reducible rfl
      simp only [Act.put, List.setIfInBounds_toArray, List.set_cons_zero, List.set_cons_succ]
      refine wpAnyH_ready (rs := [1]) (by kernel_rfl) (by simp) ?_
      refine AllReadyH.cons rfl (fun K hK => ?_) AllReadyH.nil
      have ly1 : wr.drew.cell? ⟨w2.heap.size, 1, none⟩ = some (.slice l m d) := y1
      go_simp
      refine hK.out _ _ hH (fun hH => ?_)
      clear hK K
      refine wpAnyH_ready (rs := [6]) (by kernel_rfl) (by simp) ?_
      refine AllReadyH.cons rfl (fun K hK => ?_) AllReadyH.nil
      go_simp
      refine IP.mono ?_
      rintro e w4 ⟨l4, m4, d4, rfl, own4, b4⟩
      have hX4 := block_below b4 (show wr.drew.heap[w2.heap.size]? = _ from hX)
      have hR4 := block_below b4 (show wr.drew.heap[w.heap.size]? = _ from hR)
      have ob4 := owns_below (show wr.drew.ownsRow w1.heap.size 49 3 (.slice a2 n c2) n (rcells rs) from ob) b4
      have hB4 := hB.drew.trans (b4.mono hB.size)
      obtain ⟨z0, z1, z2, z3, z4, z5, z6, z7, z8, z9, hgz⟩ := row10 hX4
      have lX4 := (Array.getElem?_eq_some_iff.1 hX4).1
      refine hK.out _ _ ⟨keep_cell b4 hH.1, keep_cell b4 hH.2.1, keep_cell b4 hH.2.2⟩ (fun hH => ?_)
      clear hK K
      refine hTake (i := 7) (v := ?_) rfl (by kernel_rfl) (by kernel_rfl) (by kernel_rfl) (by rfl) ?_ hH ?_
      rotate_left
      · intro W hW; (try dsimp only at hW); go_simp <;> with_reducible rfl
      simp only [Act.put, List.setIfInBounds_toArray, List.set_cons_zero, List.set_cons_succ]
      refine wpAnyH_ready (rs := [8]) (by kernel_rfl) (by simp) ?_
      refine AllReadyH.cons rfl (fun K hK => ?_) AllReadyH.nil
      go_simp
      refine hK.out _ _ ⟨(World.cell?_setCell_other _ _ _ _ (by first | (simp; done) | (simp; omega))).trans hH.1, (World.cell?_setCell_other _ _ _ _ (by first | (simp; done) | (simp; omega))).trans hH.2.1, (World.cell?_setCell_other _ _ _ _ (by first | (simp; done) | (simp; omega))).trans hH.2.2⟩ (fun hH => ?_)
      clear hK K
      refine wpAnyH_done (by kernel_rfl) ?_ _
      refine NoPanic.normal ?_
      have HLn := own4.1
      have own5 : OwnLv (w4.setCell ⟨w2.heap.size, 1, none⟩ (.slice l4 m4 d4)) (w2.heap.size + 1) (.slice l4 m4 d4) m4 (Ch.putN rs (k + 1)) := (own4.base (B' := w2.heap.size + 1) (by simp; omega)).box (by omega) _
      have ob5 := owns_set (p := w2.heap.size) (o := 1) ob4 (fun g hg => by have := (hbx g hg).2; omega) (.slice l4 m4 d4)
      have hX5 : (w4.setCell ⟨w2.heap.size, 1, none⟩ (.slice l4 m4 d4)).heap[w2.heap.size]? = some (.cells #[.slice a2 n c2, .slice l4 m4 d4, .slice none 0 0, .slice none 0 0, .slice none 0 0, .slice none 0 0, .slice none 0 0, .bool false, .slice none 0 0, .slice none 0 0] 35 (0, 0)) := by
        have := Joins.block_setCell (i := 1) hX4 (.slice l4 m4 d4)
        simpa using this
      have hR5 := (Below.heap_setCell w4 ⟨w2.heap.size, 1, none⟩ (.slice l4 m4 d4) w.heap.size (by show w.heap.size ≠ w2.heap.size; omega)).trans hR4
      have b5 := hB4.setCell (p := ⟨w2.heap.size, 1, none⟩) (by show w.heap.size ≤ w2.heap.size; omega) (.slice l4 m4 d4)
      generalize w4.setCell ⟨w2.heap.size, 1, none⟩ (.slice l4 m4 d4) = w5 at *
      have lX5 := (Array.getElem?_eq_some_iff.1 hX5).1
      obtain ⟨v0, v1, v2, v3, v4, v5, v6, v7, v8, v9, hvz⟩ := row10 hX5
      by_cases hbig : 60 < (Ch.putN rs (k + 1)).length
      · have HN := hid (HMA.out hbig)
        have hm : (60 : Int) < (m4 : Int) := by omega
        clear HMA HNX
        go_wp2_with fail
        refine (bad_any 2 _).mono ?_
        rintro e w6 ⟨rfl, b6⟩
        have hR6 := block_below b6 hR5
        have b6' := b5.trans (b6.mono b5.size)
        obtain ⟨x0, x1, x2, x3, x4, x5, x6, x7, x8, x9, x10, x11, x12, x13, x14, hfz⟩ := row15 hR6
        clear b6 hR5 hR6
        go_wp2
        refine bodyPost_ret (v := .agg #[.int .i64 2, .bool false, .int .i64 0, .slice none 0 0, .slice none 0 0, .slice none 0 0, .slice none 0 0, .slice none 0 0, .slice none 0 0, .slice none 0 0, .slice none 0 0, .slice none 0 0, .bool false, .slice none 0 0, .slice none 0 0]) (by simp [results, Try.results5, go_sem, x0, x1, x2, x3, x4, x5, x6, x7, x8, x9, x10, x11, x12, x13, x14]) rfl (NewS.code HN.out ?_)
        refine b6'.grown (row := some w.heap.size) ?_ b6'.size (fun g hg => by cases hg; exact Nat.le_refl _)
        repeat (first | with_reducible exact gr_reflN _ _ | with_reducible refine gr_setN ?_)
      · have HN := hid (HNX.out hbig)
        have hm : ¬ (60 : Int) < (m4 : Int) := by omega
        clear HMA HNX
        go_wp2
        go_roundw
        case rel => exact ⟨k + 1, m4, d4, l4, by omega, by go_num, HN, hX5, own5, ob5, hR5, b5⟩
        case measure => simp [intOf]; omega
    · obtain rfl : k = n := by omega
      have HN := hid (Ch.newR_ok HC.out (by have := HL.out; rw [← this]; exact HRM.out))
      rw [← HL.out] at HN
      have hOb := owns_cells ob
      obtain ⟨x0, x1, x2, x3, x4, x5, x6, x7, x8, x9, x10, x11, x12, x13, x14, hfz⟩ := row15 hR
      clear HC HRM HG
      go_wp2
      refine bodyPost_ret (v := .agg #[.int .i64 0, .bool false, .int .i64 0, .slice none 0 0, .slice none 0 0, (.slice a2 k c2), (.slice l m d), .slice none 0 0, .slice none 0 0, .slice none 0 0, .slice none 0 0, .slice none 0 0, .bool false, .slice none 0 0, .slice none 0 0]) (by simp [results, Try.results5, go_sem, x0, x1, x2, x3, x4, x5, x6, x7, x8, x9, x10, x11, x12, x13, x14]) rfl (NewS.ok HN.out (by omega) ?_ ?_ ?_)
      · refine owns_cells (base := w1.heap.size) (cap := c2) (e := 49) (size := 3) ?_
        refine owns_grown (row := some w.heap.size) ob ?_ (fun g hg e => by have := (hbx g hg).1; cases e; omega)
        repeat (first | with_reducible exact gr_reflN _ _ | with_reducible refine gr_setN ?_)
      · refine OwnLv.at (B := w2.heap.size + 1) (cap := d) ?_ (fun i => by have := Ch.lv_leaf hsz i; omega)
        obtain ⟨vs, oV⟩ := own.told
        have hlf := oV.lt
        have hll := fun g hg => owns_lt oV.2.1 g hg
        refine (oV.grownN (row := some w.heap.size) ?_ (fun g hg e => by have := (hll g hg).1; cases e; omega) (fun i x g hx hg e => by have := (hlf i x g hx hg).1; cases e; omega)).own
        repeat (first | with_reducible exact gr_reflN _ _ | with_reducible refine gr_setN ?_)
      · refine hB.grown (row := some w.heap.size) ?_ hB.size (fun g hg => by cases hg; exact Nat.le_refl _)
        repeat (first | with_reducible exact gr_reflN _ _ | with_reducible refine gr_setN ?_)
end Go.Proofs.Ytjjbjdjkcckgmaa
