
/- EdgesOf of the program. -/
import Derived.Test.YtjagobcogkdfhaaSortZ
import Derived.Test.YtjagobcogkdfhaaLkFG
namespace Go.Proofs.Ytjagobcogkdfhaa
open Go.RowKit Go.Maps

theorem Ch.names_mem {hs : List Ch.Hold} (h : Ch.namesH hs = true) {x : Ch.Hold} (hx : x ∈ hs) : 1 ≤ x.t ∧ x.t ≤ 999 := by
  unfold Ch.namesH at h
  have := Ch.name_mode (List.all_eq_true.1 h x hx)
  exact ⟨this.2.2.2.1, this.2.2.2.2⟩
theorem Ch.names_take {hs : List Ch.Hold} (h : Ch.namesH hs = true) (k : Nat) : Ch.namesH (hs.take k) = true := by
  unfold Ch.namesH at *
  rw [List.all_eq_true] at *
  exact fun x hx => h x (List.mem_of_mem_take hx)
theorem Ch.allE_rng {ls : List Ch.Lock} (h : Ch.locksFault ls = 0) : RngE (Ch.allE ls) := by
  intro e he
  unfold Ch.allE at he
  obtain ⟨l, hl, he⟩ := List.mem_flatMap.1 he
  obtain ⟨i, hi, rfl⟩ := List.mem_iff_getElem.1 hl
  have hg := Ch.good_in h hi
  have e1 : Ch.lkAt ls i = ls[i] := by simp [Ch.lkAt, List.getD, hi]
  rw [e1] at hg
  unfold Ch.queueE at he
  obtain ⟨j, hj, he⟩ := List.mem_flatMap.1 he
  have hj' := List.mem_range.1 hj
  have hq : (ls[i].qs.getD j Ch.Hold.zero) ∈ ls[i].qs := by simp [List.getD, hj']
  have hqn := Ch.names_mem hg.2.2.2 hq
  rcases List.mem_append.1 he with he | he
  · unfold Ch.waitE at he
    obtain ⟨x, hx, rfl⟩ := List.mem_map.1 he
    exact ⟨hqn, Ch.names_mem hg.2.2.1 (List.mem_filter.1 hx).1⟩
  · unfold Ch.aheadE at he
    obtain ⟨x, hx, rfl⟩ := List.mem_map.1 he
    exact ⟨hqn, Ch.names_mem hg.2.2.2 (List.mem_of_mem_take hx)⟩
theorem CellsAt.low {w : World} {a : Option Addr} {n : Nat} {hs : List Ch.Hold} (h : CellsAt w a (n * 2) (hcells hs)) {M : Nat} (hM : w.heap.size ≤ M) (h0 : 0 < n) : ∀ b o, a = some ⟨b, o, none⟩ → b ≠ M := by
  obtain ⟨b', o', rfl, c, _⟩ := h.hold h0
  have := lt_of_cell c
  intro b o e
  simp only [Option.some.injEq, Addr.mk.injEq] at e
  have hb := e.1
  omega

set_option linter.unusedSimpArgs false in
set_option maxRecDepth 20000 in
set_option maxHeartbeats 8000000 in
theorem implEdges_any (a : Option Addr) (n cap : Nat) (ls : List Ch.Lock) (w : World) (h : LkAt w a n ls) (hs : Ch.lkSize ls ≤ 1048576) :
    Calls Try.prog 25 #[.slice a n cap] w fun e w' => EdgesD ls w e w' := by
  have IA := fun W hW => implLocks_any a n cap ls W hW hs
  have kA : ∀ o, Below w.heap.size w (w.alloc o) := fun o => (Below.refl _ _).alloc (Nat.le_refl _) o
  obtain ⟨c, HC⟩ : ∃ c, Hid (Ch.locksFault ls = c) := ⟨_, rfl⟩
  have HL := h.len
  rw [HC.out] at IA
  by_cases h0 : c = 0
  · subst h0
    have HR := hid (Ch.edgesR_ok HC.out)
    have hn : n ≤ 101 := by have := Ch.good_few HC.out; have := HL.out; omega
    go_enter Try.func25, Try.ntmps25
    go_wp2_with fail
    refine (IA _ (h.below (kA _))).mono ?_
    rintro e w1 ⟨rfl, b1⟩
    have hR := heap_below b1 (heap_alloc_new w _)
    have b1 := below_box b1
    have lz := (Array.getElem?_eq_some_iff.1 hR).1
    have hmm := @run_makeMap Try.prog
    have hmade := World.ownsMap_made (H := Unit) w1 Try.prog 46 unitElem
    clear IA kA
    go_wp2
    go_loopw [18] (fun i wr => ∃ (I q : Nat) (D : DataW Unit), I ≤ n ∧ i = .int .i64 I ∧ wr.ownsMap Try.prog 46 unitElem w1.heap.size q D ∧ MpE (Ch.allE (ls.take I)) D ∧ q ≤ 800 * I ∧ wr.heap[w.heap.size]? = some (.cells #[.int .i64 0, .slice none 0 0] 40 (0, 0)) ∧ w1.heap.size < wr.heap.size ∧ Below w.heap.size w wr) (fun i _ => n - (intOf i).toNat)
    case atStart => exact ⟨0, 0, _, Nat.zero_le _, rfl, hmade, MpE.empty, by omega, (heap_old' lz).trans hR, by simp, b1.alloc b1.size _⟩
    case round =>
      clear hR hmade hmm
      obtain ⟨I, q, D, hI, rfl, own, mp, hq, hR, hsz, hB⟩ := hrel
      generalize wr = wA at *
      have hwA := hB.size
      have b1s := b1.size
      by_cases hlt : I < n
      · have hIl : I < ls.length := by have := HL.out; omega
        have HGK := hid (Ch.good_in HC.out hIl)
        have HAN := hid (Ch.allE_next hIl)
        obtain ⟨b, off, ah, nh, ch, aq, nq, cq, rfl, c0, c1, c2, h3, h4, _, _, _, hnc⟩ := h.lock hlt
        replace c0 := keep_cell hB c0
        replace c1 := keep_cell hB c1
        replace c2 := keep_cell hB c2
        have HQX := hid (fun k => Ch.queueE_next (Ch.lkAt ls I) k)
        generalize Ch.lkAt ls I = l at *
        obtain ⟨r, hs, qs⟩ := l
        simp only at c0 h3 h4 HGK HAN HQX
        have HH := h3.hlen
        have HQ := h4.hlen
        have hnh : nh ≤ 20 := by have := HGK.out.1; have := HH.out; omega
        have hnq : nq ≤ 20 := by have := HGK.out.2.1; have := HQ.out; omega
        have hbl := lt_of_cell c0
        have hlowH := fun h0 => h3.low (M := w1.heap.size) (by omega) h0
        have hlowQ := fun h0 => h4.low (M := w1.heap.size) (by omega) h0
        have hq0 : Hid (Ch.allE (ls.take I) ++ Ch.queueE ⟨r, hs, qs⟩ 0 = Ch.allE (ls.take I)) := by show _ = _; simp [Ch.queueE]
        obtain ⟨A0, HA0⟩ : ∃ A0, Hid (Ch.allE (ls.take I) = A0) := ⟨_, rfl⟩
        rw [HA0.out] at mp HAN hq0
        obtain ⟨QE, HQE⟩ : ∃ QE : Nat → List Ch.Hold, Hid (∀ k, Ch.queueE ⟨r, hs, qs⟩ k = QE k) := ⟨_, fun _ => rfl⟩
        rw [HQE.out] at hq0 HAN
        have HQN2 : Hid (∀ k, QE (k + 1) = QE k ++ (Ch.waitE (qs.getD k Ch.Hold.zero) hs ++ Ch.aheadE (qs.getD k Ch.Hold.zero) (qs.take k))) := fun k => by rw [← HQE.out, ← HQE.out]; exact HQX.out k
        clear HQX HQE
        have HNQ := hid HGK.out.2.2.2
        have HNH := hid HGK.out.2.2.1
        clear HGK
        have kX : Below wA.heap.size wA (wA.alloc (.cells #[.int .i64 r, .slice ah nh ch, .slice aq nq cq] 129)) := (Below.refl _ _).alloc (Nat.le_refl _) _
        have ownX := map_below own kX
        have hRX := heap_below kX hR
        have hBX := hB.trans (kX.mono hB.size)
        have z1 : (wA.alloc (.cells #[.int .i64 r, .slice ah nh ch, .slice aq nq cq] 129)).cell? ⟨wA.heap.size, 1, none⟩ = some (.slice ah nh ch) := by simp [go_sem]
        have z2 : (wA.alloc (.cells #[.int .i64 r, .slice ah nh ch, .slice aq nq cq] 129)).cell? ⟨wA.heap.size, 2, none⟩ = some (.slice aq nq cq) := by simp [go_sem]
        have hszX : w1.heap.size < (wA.alloc (.cells #[.int .i64 r, .slice ah nh ch, .slice aq nq cq] 129)).heap.size := by simp; omega
        have hzX : wA.heap.size < (wA.alloc (.cells #[.int .i64 r, .slice ah nh ch, .slice aq nq cq] 129)).heap.size := by simp
        have hMP := hid mp
        clear mp own hR hB kX
        go_wp2
        go_loopw [25] (fun i wx => ∃ (k q : Nat) (D : DataW Unit), k ≤ nq ∧ i = .int .i64 k ∧ wx.ownsMap Try.prog 46 unitElem w1.heap.size q D ∧ MpE (A0 ++ QE k) D ∧ q ≤ 800 * I + 40 * k ∧ wx.heap[w.heap.size]? = some (.cells #[.int .i64 0, .slice none 0 0] 40 (0, 0)) ∧ w1.heap.size < wx.heap.size ∧ wx.cell? ⟨wA.heap.size, 1, none⟩ = some (.slice ah nh ch) ∧ wx.cell? ⟨wA.heap.size, 2, none⟩ = some (.slice aq nq cq) ∧ wA.heap.size < wx.heap.size ∧ Below w.heap.size w wx) (fun i _ => nq - (intOf i).toNat)
        case atStart => exact ⟨0, q, D, Nat.zero_le _, rfl, ownX, by rw [hq0.out]; exact hMP.out, by omega, hRX, hszX, z1, z2, hzX, hBX⟩
        case round =>
          clear ownX hRX hBX z1 z2 hszX hzX hMP hq0 hq
          obtain ⟨k, q, D, hk, rfl, own, mp, hq, hR, hszx, z1, z2, hzx, hB⟩ := hrel
          generalize wr = wx at *
          have HMP := hid mp
          clear mp
          by_cases hlk : k < nq
          · have hkl : k < qs.length := by have := HQ.out; omega
            have HQK := hid (HQN2.out k)
            have HQN := hid (Ch.names_at HNQ.out hkl)
            have HQT := hid (Ch.names_take HNQ.out k)
            obtain ⟨qb, qo, e, q0, q1⟩ := (h4.below hB).hold hlk
            subst e
            have hqb := lt_of_cell q0
            generalize qs.getD k Ch.Hold.zero = qq at *
            obtain ⟨qt, qm⟩ := qq
            simp only at q0 q1 HQN
            have kY : Below wx.heap.size wx (wx.alloc (.cells #[.int .i64 qt, .int .i64 qm] 131)) := (Below.refl _ _).alloc (Nat.le_refl _) _
            obtain ⟨y0, y1, _, _⟩ := row2 (heap_alloc_new wx (.cells #[.int .i64 qt, .int .i64 qm] 131))
            have ownY := map_below own kY
            have hRY := heap_below kY hR
            have hBY := hB.trans (kY.mono hB.size)
            have s1 := keep_cell kY z1
            have s2 := keep_cell kY z2
            have ly := lt_of_cell y0
            have ls1 := lt_of_cell s1
            have lM : w1.heap.size < (wx.alloc (.cells #[.int .i64 qt, .int .i64 qm] 131)).heap.size := Nat.lt_of_lt_of_le hszx kY.size
            have hneW : w1.heap.size ≠ wx.heap.size := by omega
            have hneA : w1.heap.size ≠ wA.heap.size := by omega
            have hneR : w1.heap.size ≠ w.heap.size := by omega
            have hkc : (k : Int) ≤ (cq : Int) := by omega
            clear own hR z1 z2
            go_wp2_with fail
            refine (addHolders_any w1.heap.size q D _ qt qm ah nh ch hs _ ownY HMP.out (h3.below hBY) (by omega) (by omega) HQN.out HNH.out hlowH lM).mono ?_
            rintro e w3 ⟨rfl, ⟨q3, D3, own3, hq3, mp3⟩, gr3⟩
            have t0 := grown_cell gr3 y0 (by simpa using fun e => hneW e)
            have t1 := grown_cell gr3 y1 (by simpa using fun e => hneW e)
            have t2 := grown_cell gr3 s2 (by simpa using fun e => hneA e)
            have t3 := grown_cell gr3 s1 (by simpa using fun e => hneA e)
            have hR3 := gr_heap gr3 hRY (by simpa using fun e => hneR e)
            have hB3 : Below w.heap.size w w3 := hBY.grown gr3 hBY.size (fun g hg => by cases hg; omega)
            have l0 := lt_of_cell t0
            have l2 := lt_of_cell t2
            clear y0 y1 s1 s2 ownY hRY hBY ly ls1 kY q0 q1 HMP
            go_wp2_with fail
            refine wp_region_noPanic ?_
            refine wp_region_held_drew (S := fun W' => W'.cell? ⟨wx.heap.size, 0, none⟩ = some (.int .i64 qt) ∧ W'.cell? ⟨wx.heap.size, 1, none⟩ = some (.int .i64 qm) ∧ W'.cell? ⟨wA.heap.size, 2, none⟩ = some (.slice (some ⟨qb, qo, none⟩) nq cq)) (by kernel_rfl) (⟨t0, t1, t2⟩) (fun hH => ?_)
            refine hTake (i := 0) (v := ?_) rfl (by kernel_rfl) (by kernel_rfl) (by kernel_rfl) (by rfl) ?_ hH ?_
            rotate_left
            · intro W hW; (try dsimp only at hW); go_simp <;> with_reducible rfl
            simp only [Act.put, List.setIfInBounds_toArray, List.set_cons_zero, List.set_cons_succ]
            refine hTake (i := 1) (v := ?_) rfl (by kernel_rfl) (by kernel_rfl) (by kernel_rfl) (by rfl) ?_ hH ?_
            rotate_left
            · intro W hW; (try dsimp only at hW); go_simp <;> with_reducible rfl
            simp only [Act.put, List.setIfInBounds_toArray, List.set_cons_zero, List.set_cons_succ]
            refine hTake (i := 2) (v := ?_) rfl (by kernel_rfl) (by kernel_rfl) (by kernel_rfl) (by rfl) ?_ hH ?_
            rotate_left
            · intro W hW; (try dsimp only at hW); go_simp <;> with_reducible rfl
            simp only [Act.put, List.setIfInBounds_toArray, List.set_cons_zero, List.set_cons_succ]
            refine hTake (i := 3) (v := ?_) rfl (by kernel_rfl) (by kernel_rfl) (by kernel_rfl) (by rfl) ?_ hH ?_
            rotate_left
            · intro W hW; (try dsimp only at hW); go_simp <;> with_reducible rfl
            simp only [Act.put, List.setIfInBounds_toArray, List.set_cons_zero, List.set_cons_succ]
            refine hTake (i := 4) (v := ?_) rfl (by kernel_rfl) (by kernel_rfl) (by kernel_rfl) (by rfl) ?_ hH ?_
            rotate_left
            · intro W hW; (try dsimp only at hW); go_simp <;> with_reducible rfl
            simp only [Act.put, List.setIfInBounds_toArray, List.set_cons_zero, List.set_cons_succ]
            refine hTake (i := 5) (v := ?_) rfl (by kernel_rfl) (by kernel_rfl) (by kernel_rfl) (by rfl) ?_ hH ?_
            rotate_left
            · intro W hW; (try dsimp only at hW); go_simp <;> with_reducible rfl
            simp only [Act.put, List.setIfInBounds_toArray, List.set_cons_zero, List.set_cons_succ]
            refine wpAnyH_ready (rs := [6]) (by kernel_rfl) (by simp) ?_
            refine AllReadyH.cons rfl (fun K hK => ?_) AllReadyH.nil
            go_simp
            refine (addAhead_any w1.heap.size q3 D3 _ qt qm (some ⟨qb, qo, none⟩) k cq (qs.take k) _ (show w3.drew.ownsMap Try.prog 46 unitElem w1.heap.size q3 D3 from own3) mp3 ((h4.below hB3.drew).htake (Nat.le_of_lt hlk)) (by omega) (by omega) HQN.out HQT.out (fun h0 => hlowQ (by omega)) (by show w1.heap.size < w3.heap.size; omega)).mono ?_
            rintro e w4 ⟨rfl, ⟨q4, D4, own4, hq4, mp4⟩, gr4⟩
            refine hK.out _ _ ?_ (fun hH => ?_)
            · exact ⟨grown_cell gr4 hH.1 (by simpa using fun e => hneW e), grown_cell gr4 hH.2.1 (by simpa using fun e => hneW e), grown_cell gr4 hH.2.2 (by simpa using fun e => hneA e)⟩
            clear hK K
            refine wpAnyH_done (by kernel_rfl) ?_ _
            refine NoPanic.normal ?_
            have u1 := grown_cell gr4 (show w3.drew.cell? ⟨wA.heap.size, 1, none⟩ = some (.slice ah nh ch) from t3) (by simpa using fun e => hneA e)
            have hR4 := gr_heap gr4 (show w3.drew.heap[w.heap.size]? = _ from hR3) (by simpa using fun e => hneR e)
            have hB3d := hB3.drew
            have hB4 : Below w.heap.size w w4 := hB3d.grown gr4 hB3d.size (fun g hg => by cases hg; omega)
            have l4 := lt_of_cell hH.2.2
            have l5 : w1.heap.size < w4.heap.size := Nat.lt_of_lt_of_le (show w1.heap.size < w3.drew.heap.size from (by show w1.heap.size < w3.heap.size; omega)) gr4.size
            go_wp2
            go_roundw
            case rel => exact ⟨k + 1, q4, D4, by omega, by go_num, own4, by rw [HQK.out, ← List.append_assoc, ← List.append_assoc]; exact mp4, by omega, hR4, l5, u1, hH.2.2, l4, hB4⟩
            case measure => simp [intOf]; omega
          · obtain rfl : k = nq := by omega
            rw [HQ.out] at HMP
            go_wp2
            go_roundw
            case rel => exact ⟨I + 1, q, D, by omega, by go_num, own, by rw [HAN.out]; exact HMP.out, by omega, hR, hszx, hB⟩
            case measure => simp [intOf]; omega
      · obtain rfl : I = n := by omega
        have HT : Hid (ls.take I = ls) := by have := HL.out; show _ = _; rw [this]; exact List.take_length
        rw [HT.out] at mp
        have hsz2 := own.size_le
        have IS := sorted_any w1.heap.size q D (Ch.allE ls) wA own mp (Ch.allE_rng HC.out) (by omega)
        obtain ⟨x0, x1, f0, f1⟩ := row2 hR
        go_wp2_with fail
        refine IS.mono ?_
        rintro e w2 ⟨a', m, c', rfl, hm, own2, b2⟩
        have hR2 := heap_below b2 hR
        have hB2 := hB.trans (b2.mono hB.size)
        obtain ⟨x0, x1, f0, f1⟩ := row2 hR2
        have lx := lt_of_cell x0
        have z1 := b2.size
        clear hR hR2 IS
        go_wp2
        refine bodyPost_ret (v := .agg #[.int .i64 0, .slice a' m c']) (by simp [results, Try.results25, go_sem, x0, x1]) rfl ⟨a', m, c', by rw [HR.out], by omega, ?_, ?_⟩
        · rw [HR.out]
          refine owns_base (base := wA.heap.size) (ownsRow_setCell_below (ownsRow_setCell_below own2 ?_ _) ?_ _) (by omega)
          · show w.heap.size < wA.heap.size; omega
          · show w.heap.size < wA.heap.size; omega
        · exact (hB2.setCell (p := ⟨w.heap.size, 0, none⟩) (Nat.le_refl _) _).setCell (p := ⟨w.heap.size, 1, none⟩) (Nat.le_refl _) _
  · have HR := hid (Ch.edgesR_bad HC.out h0)
    clear HC
    go_enter Try.func25, Try.ntmps25
    go_wp2_with fail
    refine (IA _ (h.below (kA _))).mono ?_
    rintro e w1 ⟨rfl, b1⟩
    have hR := heap_below b1 (heap_alloc_new w _)
    have b1 := below_box b1
    obtain ⟨x0, x1, f0, f1⟩ := row2 hR
    have lx := lt_of_cell x0
    go_wp2
    refine bodyPost_ret (v := .agg #[.int .i64 c, .slice none 0 0]) (by simp [results, Try.results25, go_sem, x0, x1]) rfl ⟨none, 0, 0, by rw [HR.out], by omega, by rw [HR.out]; exact World.ownsRow_nil _ _ _ _, (b1.setCell (p := ⟨w.heap.size, 0, none⟩) (Nat.le_refl _) _).setCell (p := ⟨w.heap.size, 1, none⟩) (Nat.le_refl _) _⟩
end Go.Proofs.Ytjagobcogkdfhaa
