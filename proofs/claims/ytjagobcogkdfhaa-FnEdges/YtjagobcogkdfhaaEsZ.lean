/- Several texts in one: EsM, EsL. -/
import Derived.Test.YtjagobcogkdfhaaEdZ
import Derived.Test.YtjagobcogkdfhaaKeepZ
import Derived.Test.YtjagobcogkdfhaaDrawZ
import Derived.Deep.DeepCutAuto


/- Plain facts of the law FnEdges, as its functions answer. -/
namespace Go.Proofs.Ytjagobcogkdfhaa

theorem Ch.edges_asked {ls : List Ch.Lock} (h : Ch.locksFault ls = 0) {t : Int} (h1 : 1 ≤ t) (h2 : t ≤ 999) : Ch.askedT ls t = 0 := by
  rw [Ch.askedT_ok (by rw [h]; rfl)]
  have : Ch.inB t 1 999 = true := by simp [Ch.inB]; omega
  rw [this]; rfl
/-- Of each edge. -/
theorem Ch.edges_one {ls : List Ch.Lock} (h : Ch.locksFault ls = 0) {i : Nat} (hi : i < (Ch.sortE (Ch.allE ls)).length) :
    (Ch.waitsR ls ((Ch.sortE (Ch.allE ls)).getD i Ch.Hold.zero).t).1 = 0 ∧ (((Ch.sortE (Ch.allE ls)).getD i Ch.Hold.zero).t == ((Ch.sortE (Ch.allE ls)).getD i Ch.Hold.zero).m) = false := by
  have hm : (Ch.sortE (Ch.allE ls)).getD i Ch.Hold.zero ∈ Ch.allE ls := Ch.sortE_mem.1 (by simp [List.getD, hi])
  have hr := Ch.allE_rng h _ hm
  obtain ⟨h1, h2⟩ := Ch.edge_waits h hm
  refine ⟨by rw [Ch.waitsR_yes (Ch.edges_asked h hr.1.1 hr.1.2) h1], by simpa using h2⟩
/-- How many edges go out of one, among the first k. -/
def Ch.cntE (es : List Ch.Hold) (t : Int) (k : Nat) : Nat := ((es.take k).filter fun e => e.t == t).length
theorem Ch.cntE_yes {es : List Ch.Hold} {t : Int} {k : Nat} (hk : k < es.length) (h : ((es.getD k Ch.Hold.zero).t == t) = true) : Ch.cntE es t (k + 1) = Ch.cntE es t k + 1 := by
  unfold Ch.cntE
  rw [Ch.take_snoc es Ch.Hold.zero k hk, List.filter_append]
  simp only [List.filter_cons, h, if_true, List.filter_nil, List.length_append, List.length_cons, List.length_nil]
theorem Ch.cntE_no {es : List Ch.Hold} {t : Int} {k : Nat} (hk : k < es.length) (h : ((es.getD k Ch.Hold.zero).t == t) = false) : Ch.cntE es t (k + 1) = Ch.cntE es t k := by
  unfold Ch.cntE
  rw [Ch.take_snoc es Ch.Hold.zero k hk, List.filter_append]
  simp only [List.filter_cons, h, Bool.false_eq_true, if_false, List.filter_nil, List.append_nil]
theorem Ch.cntE_le (es : List Ch.Hold) (t : Int) (k : Nat) : Ch.cntE es t k ≤ k := by
  unfold Ch.cntE
  have h1 := List.length_filter_le (fun e : Ch.Hold => e.t == t) (es.take k)
  have h2 := List.length_take_le k es
  omega
/-- Of each transaction. -/
theorem Ch.edges_txn {ls : List Ch.Lock} (h : Ch.locksFault ls = 0) (hf : Ch.Few 17 ls) {t : Int} (h1 : 1 ≤ t) (h2 : t ≤ 6) :
    decide (0 < Ch.cntE (Ch.sortE (Ch.allE ls)) t (Ch.sortE (Ch.allE ls)).length) = ((Ch.waitsR ls t).1 == 0) := by
  have ha := Ch.edges_asked h h1 (show t ≤ 999 by omega)
  unfold Ch.cntE
  rw [List.take_length]
  cases hw : Ch.waitsB ls t
  · rw [Ch.waitsR_no ha hw]
    have hn : (Ch.sortE (Ch.allE ls)).filter (fun e => e.t == t) = [] := by
      rw [List.filter_eq_nil_iff]
      intro e he hc
      have := (Ch.edge_waits h (Ch.sortE_mem.1 he)).1
      have e2 : e.t = t := by simpa using hc
      rw [e2, hw] at this; cases this
    rw [hn]; rfl
  · rw [Ch.waitsR_yes ha hw]
    obtain ⟨e, he, et⟩ := Ch.waits_edge h (fun l hl => by have := hf l hl; omega) hw
    have hm : e ∈ (Ch.sortE (Ch.allE ls)).filter (fun e => e.t == t) := List.mem_filter.2 ⟨Ch.sortE_mem.2 he, by simpa using et⟩
    have := List.length_pos_of_mem hm
    simp [this]
end Go.Proofs.Ytjagobcogkdfhaa


/- The law FnEdges. -/
namespace Go.Proofs.Ytjagobcogkdfhaa
open Go.RowKit

set_option linter.unusedSimpArgs false in
set_option maxRecDepth 20000 in
set_option maxHeartbeats 16000000 in
theorem lawFnEdges_any (a : Option Addr) (n cap : Nat) (zs : List Int) (w : World) (h : CellsAt w a n (bts zs)) (hb : IsB zs) :
    Calls Try.prog 4 #[.slice a n cap] w fun e w' => e = .returned (.bool true) ∧ Below w.heap.size w w' := by
  by_cases hbig : 1048576 < n
  · have hd : decide ((1048576 : Int) < (n : Int)) = true := by simp; omega
    go_enter Try.func4, Try.ntmps4
    go_wp2_with fail
    refine (big_any a n cap _).mono ?_
    rintro e w0 ⟨rfl, hw0⟩
    obtain rfl := hw0.symm
    rw [hd]
    go_wp2
    go_ret
    exact ⟨rfl, Below.refl _ _⟩
  have hn : n ≤ 1048576 := by omega
  have hd : decide ((1048576 : Int) < (n : Int)) = false := by simp; omega
  clear hbig
  go_enter Try.func4, Try.ntmps4
  go_wp2_with fail
  refine (big_any a n cap _).mono ?_
  rintro e w0 ⟨rfl, hw0⟩
  obtain rfl := hw0.symm
  rw [hd]
  go_wp2_with fail
  refine (drawEdges_any a n cap zs _ h hb (by omega)).mono ?_
  rintro e w1 ⟨a', m, c', ls, rfl, hL, hsz, hf, b1⟩
  have SI := fun W hW => specEdges_any a' m c' ls W hW (by omega)
  have II := fun W hW => implEdges_any a' m c' ls W hW (by omega)
  have IWL := fun v W hW => implWaitsAt_any a' m c' v ls W hW (by omega)
  unfold EdgesD at SI II
  clear hd h hb
  obtain ⟨c, HC⟩ : ∃ c, Hid (Ch.locksFault ls = c) := ⟨_, rfl⟩
  by_cases h0 : c = 0
  · subst h0
    have HE1 := hid (fun i hi => Ch.edges_one (i := i) HC.out hi)
    have HE2 := hid (fun t h1 h2 => Ch.edges_txn (t := t) HC.out hf h1 h2)
    rw [Ch.edgesR_ok HC.out] at SI II
    simp only at SI II
    clear hf HC
    generalize Ch.sortE (Ch.allE ls) = es at *
    go_wp2_with fail
    refine (II _ hL).mono ?_
    rintro e w2 ⟨a1, m1, c1, rfl, hm1, r1, b2⟩
    clear II
    have hZ := owns_cells r1
    have hL := hL.below b2
    have b2 := b1.trans (b2.mono b1.size)
    clear b1 r1
    have kX : Below w2.heap.size w2 (w2.alloc (.cells #[.int .i64 0, .slice a1 m1 c1] 40)) := (Below.refl _ _).alloc (Nat.le_refl _) _
    obtain ⟨x0, x1, _, _⟩ := row2 (heap_alloc_new w2 (.cells #[.int .i64 0, .slice a1 m1 c1] 40))
    have hZ := hZ.below kX
    have hL := hL.below kX
    have b3 := b2.trans (kX.mono b2.size)
    have lx := lt_of_cell x0
    have HL := hZ.hlen
    clear b2 kX
    go_wp2
    generalize w2.alloc (.cells #[.int .i64 0, .slice a1 m1 c1] 40) = U at *
    go_loopw [5] (fun i wr => ∃ k : Nat, k ≤ m1 ∧ i = .int .i64 k ∧ Below U.heap.size U wr) (fun i _ => m1 - (intOf i).toNat)
    case atStart => exact ⟨0, Nat.zero_le _, rfl, Below.refl _ _⟩
    case round =>
      obtain ⟨k, hk, rfl, hB⟩ := hrel
      have y1 := keep_cell hB x1
      have ly := lt_of_cell y1
      by_cases hlt : k < m1
      · have hkl : k < es.length := by have := HL.out; omega
        obtain ⟨e1, e2⟩ := HE1.out k hkl
        obtain ⟨b, off, rfl, q0, q1⟩ := (hZ.below hB).hold hlt
        have hbl := lt_of_cell q0
        generalize es.getD k Ch.Hold.zero = ee at *
        obtain ⟨et, em⟩ := ee
        simp only at q0 q1 e1 e2
        have IW1 := IWL et
        rw [e1] at IW1
        clear e1 IWL SI HE1 HE2
        generalize (Ch.waitsR ls et).2 = wv at *
        go_wp2_with fail
        refine (IW1 _ (hL.below hB)).mono ?_
        rintro e w4 ⟨rfl, b4⟩
        have hB4 := hB.trans (b4.mono hB.size)
        have kO : Below w4.heap.size w4 (w4.alloc (.cells #[.int .i64 0, .int .i64 wv] 43)) := (Below.refl _ _).alloc (Nat.le_refl _) _
        obtain ⟨z0, z1, _, _⟩ := row2 (heap_alloc_new w4 (.cells #[.int .i64 0, .int .i64 wv] 43))
        have p1 := keep_cell kO (keep_cell b4 y1)
        have r0 := keep_cell kO (keep_cell b4 q0)
        have r1 := keep_cell kO (keep_cell b4 q1)
        have hB5 := hB4.trans (kO.mono hB4.size)
        clear y1 q0 q1 hB4 kO IW1
        go_wp2_with fail
        generalize w4.alloc (.cells #[.int .i64 0, .int .i64 wv] 43) = V at *
        refine wp_region_noPanic ?_
        refine wp_region_held_drew (S := fun W' => W'.cell? ⟨w4.heap.size, 0, none⟩ = some (.int .i64 0) ∧ W'.cell? ⟨w2.heap.size, 1, none⟩ = some (.slice (some ⟨b, off, none⟩) m1 c1) ∧ W'.cell? ⟨b, off + k * 2, none⟩ = some (.int .i64 et) ∧ W'.cell? ⟨b, off + k * 2 + 1, none⟩ = some (.int .i64 em) ∧ Below U.heap.size U W') (by kernel_rfl) (⟨z0, p1, r0, r1, hB5.drew⟩) (fun hH => ?_)
        refine hTake (i := 0) (v := ?_) rfl (by kernel_rfl) (by kernel_rfl) (by kernel_rfl) (by rfl) ?_ hH ?_
        rotate_left
        · intro W hW; (try dsimp only at hW); go_simp <;> with_reducible rfl
        simp only [Act.put, List.setIfInBounds_toArray, List.set_cons_zero, List.set_cons_succ]
        refine hTake (i := 1) (v := ?_) rfl (by kernel_rfl) (by kernel_rfl) (by kernel_rfl) (by rfl) ?_ hH ?_
        rotate_left
        · intro W hW; (try dsimp only at hW); go_simp <;> with_reducible rfl
        simp only [Act.put, List.setIfInBounds_toArray, List.set_cons_zero, List.set_cons_succ]
        refine hTake (i := 2) (v := ?_) rfl (by kernel_rfl) (by kernel_rfl) (by kernel_rfl) (by rfl) ?_ hH ?_
        rotate_left
        · intro W hW; (try dsimp only at hW); go_simp <;> with_reducible rfl
        simp only [Act.put, List.setIfInBounds_toArray, List.set_cons_zero, List.set_cons_succ]
        refine hTake (i := 3) (v := ?_) rfl (by kernel_rfl) (by kernel_rfl) (by kernel_rfl) (by rfl) ?_ hH ?_
        rotate_left
        · intro W hW; (try dsimp only at hW); go_simp <;> with_reducible rfl
        simp only [Act.put, List.setIfInBounds_toArray, List.set_cons_zero, List.set_cons_succ]
        refine hTake (i := 4) (v := ?_) rfl (by kernel_rfl) (by kernel_rfl) (by kernel_rfl) (by rfl) ?_ hH ?_
        rotate_left
        · intro W hW; (try dsimp only at hW); go_simp <;> with_reducible rfl
        simp only [Act.put, List.setIfInBounds_toArray, List.set_cons_zero, List.set_cons_succ]
        refine hTake (i := 5) (v := ?_) rfl (by kernel_rfl) (by kernel_rfl) (by kernel_rfl) (by rfl) ?_ hH ?_
        rotate_left
        · intro W hW; (try dsimp only at hW); go_simp <;> with_reducible rfl
        simp only [Act.put, List.setIfInBounds_toArray, List.set_cons_zero, List.set_cons_succ]
        refine hTake (i := 6) (v := ?_) rfl (by kernel_rfl) (by kernel_rfl) (by kernel_rfl) (by rfl) ?_ hH ?_
        rotate_left
        · intro W hW; (try dsimp only at hW); go_simp <;> with_reducible rfl
        simp only [Act.put, List.setIfInBounds_toArray, List.set_cons_zero, List.set_cons_succ]
        refine hTake (i := 7) (v := ?_) rfl (by kernel_rfl) (by kernel_rfl) (by kernel_rfl) (by rfl) ?_ hH ?_
        rotate_left
        · intro W hW; (try dsimp only at hW); go_simp <;> with_reducible rfl
        simp only [Act.put, List.setIfInBounds_toArray, List.set_cons_zero, List.set_cons_succ]
        refine hTake (i := 8) (v := ?_) rfl (by kernel_rfl) (by kernel_rfl) (by kernel_rfl) (by rfl) ?_ hH ?_
        rotate_left
        · intro W hW; (try dsimp only at hW); go_simp <;> with_reducible rfl
        simp only [Act.put, List.setIfInBounds_toArray, List.set_cons_zero, List.set_cons_succ]
        refine hTake (i := 9) (v := ?_) rfl (by kernel_rfl) (by kernel_rfl) (by kernel_rfl) (by rfl) ?_ hH ?_
        rotate_left
        · intro W hW; (try dsimp only at hW); go_simp <;> with_reducible rfl
        simp only [Act.put, List.setIfInBounds_toArray, List.set_cons_zero, List.set_cons_succ]
        refine hTake (i := 10) (v := ?_) rfl (by kernel_rfl) (by kernel_rfl) (by kernel_rfl) (by rfl) ?_ hH ?_
        rotate_left
        · intro W hW; (try dsimp only at hW); go_simp <;> with_reducible rfl
        simp only [Act.put, List.setIfInBounds_toArray, List.set_cons_zero, List.set_cons_succ]
        refine hTake (i := 11) (v := ?_) rfl (by kernel_rfl) (by kernel_rfl) (by kernel_rfl) (by rfl) ?_ hH ?_
        rotate_left
        · intro W hW; (try dsimp only at hW); go_simp <;> with_reducible rfl
        simp only [Act.put, List.setIfInBounds_toArray, List.set_cons_zero, List.set_cons_succ]
        refine hTake (i := 12) (v := ?_) rfl (by kernel_rfl) (by kernel_rfl) (by kernel_rfl) (by rfl) ?_ hH ?_
        rotate_left
        · intro W hW; (try dsimp only at hW); go_simp <;> with_reducible rfl
        simp only [Act.put, List.setIfInBounds_toArray, List.set_cons_zero, List.set_cons_succ]
        refine hTake (i := 13) (v := ?_) rfl (by kernel_rfl) (by kernel_rfl) (by kernel_rfl) (by rfl) ?_ hH ?_
        rotate_left
        · intro W hW; (try dsimp only at hW); go_simp <;> with_reducible rfl
        simp only [Act.put, List.setIfInBounds_toArray, List.set_cons_zero, List.set_cons_succ]
        refine hTake (i := 14) (v := ?_) rfl (by kernel_rfl) (by kernel_rfl) (by kernel_rfl) (by rfl) ?_ hH ?_
        rotate_left
        · intro W hW; (try dsimp only at hW); go_simp <;> with_reducible rfl
        simp only [Act.put, List.setIfInBounds_toArray, List.set_cons_zero, List.set_cons_succ]
        refine hTake (i := 15) (v := ?_) rfl (by kernel_rfl) (by kernel_rfl) (by kernel_rfl) (by rfl) ?_ hH ?_
        rotate_left
        · intro W hW; (try dsimp only at hW); go_simp <;> with_reducible rfl
        simp only [Act.put, List.setIfInBounds_toArray, List.set_cons_zero, List.set_cons_succ]
        refine hTake (i := 16) (v := ?_) rfl (by kernel_rfl) (by kernel_rfl) (by kernel_rfl) (by rfl) ?_ hH ?_
        rotate_left
        · intro W hW; (try dsimp only at hW); go_simp <;> with_reducible rfl
        simp only [Act.put, List.setIfInBounds_toArray, List.set_cons_zero, List.set_cons_succ]
        refine hTake (i := 17) (v := ?_) rfl (by kernel_rfl) (by kernel_rfl) (by kernel_rfl) (by rfl) ?_ hH ?_
        rotate_left
        · intro W hW; (try dsimp only at hW); go_simp <;> with_reducible rfl
        simp only [Act.put, List.setIfInBounds_toArray, List.set_cons_zero, List.set_cons_succ]
        refine wpAnyH_done (by kernel_rfl) ?_ _
        refine NoPanic.normal ?_
        go_wp2
        go_roundw
        case rel => exact ⟨k + 1, by omega, by go_num, hH.2.2.2.2⟩
        case measure => simp [intOf]; omega
      · obtain rfl : k = m1 := by omega
        clear HE1 hlt hk
        go_wp2
        generalize wr = U1 at *
        go_loopw [7] (fun i wx => ∃ t : Int, 1 ≤ t ∧ t ≤ 7 ∧ i = .int .i64 t ∧ Below U.heap.size U wx) (fun i _ => (7 - intOf i).toNat)
        case atStart => exact ⟨1, by omega, by omega, rfl, hB⟩
        case round =>
          clear hB y1 ly
          obtain ⟨t, ht1, ht7, rfl, hB⟩ := hrel
          generalize wr = X at *
          have y1 := keep_cell hB x1
          have ly := lt_of_cell y1
          by_cases htl : t ≤ 6
          · have HT := hid (HE2.out t ht1 htl)
            have IW1 := IWL t
            clear HE2 IWL SI
            generalize (Ch.waitsR ls t).1 = cw at *
            generalize (Ch.waitsR ls t).2 = wv at *
            go_wp2
            go_loopw [8, 9] (fun c i wx => ∃ (j : Nat), j ≤ k ∧ i = .int .i64 j ∧ c = .int .i64 (Ch.cntE es t j) ∧ Below U.heap.size U wx) (fun _ i _ => k - (intOf i).toNat)
            case atStart => exact ⟨0, Nat.zero_le _, rfl, by simp [Ch.cntE], hB⟩
            case round =>
              clear hB y1 ly
              obtain ⟨j, hj, rfl, rfl, hB⟩ := hrel
              generalize wr = Y at *
              have y1 := keep_cell hB x1
              have ly := lt_of_cell y1
              have hcj := Ch.cntE_le es t j
              by_cases hlj : j < k
              · have hjl : j < es.length := by have := HL.out; omega
                have HY := hid (fun he => Ch.cntE_yes (t := t) hjl he)
                have HN := hid (fun he => Ch.cntE_no (t := t) hjl he)
                obtain ⟨b, off, rfl, q0, q1⟩ := (hZ.below hB).hold hlj
                have hbl := lt_of_cell q0
                generalize es.getD j Ch.Hold.zero = ee at *
                obtain ⟨et, em⟩ := ee
                simp only at q0 q1 HY HN
                generalize Ch.cntE es t j = cj at *
                cases he : (et == t)
                · replace HN := hid (HN.out he)
                  clear HY IW1 HT
                  go_wp2
                  go_roundw
                  case rel => exact ⟨j + 1, by omega, by go_num, by rw [HN.out], hB⟩
                  case measure => simp [intOf]; omega
                · replace HY := hid (HY.out he)
                  clear HN IW1 HT
                  go_wp2
                  go_roundw
                  case rel => exact ⟨j + 1, by omega, by go_num, by rw [HY.out]; go_num, hB⟩
                  case measure => simp [intOf]; omega
              · obtain rfl : j = k := by omega
                have HT2 : Hid (decide ((0 : Int) < ((Ch.cntE es t j : Nat) : Int)) = (cw == 0)) := by
                  have h1 := HT.out
                  have h2 := HL.out
                  show _ = _
                  rw [← h2] at h1
                  rw [← h1]
                  simp
                clear HT
                generalize Ch.cntE es t j = cj at *
                have hfd0 : ∀ (x y : Int) W, (Instr.field 43 (.agg #[.int .i64 x, .int .i64 y]) 0).run Try.prog W = .ok (.int .i64 x) W := fun _ _ _ => by kernel_rfl
                clear hcj
                cases hp : (cw == 0)
                · rw [hp] at HT2
                  obtain rfl : cj = 0 := by have := HT2.out; simp at this; omega
                  clear HT2
                  go_wp2_with fail
                  refine (IW1 _ (hL.below hB)).mono ?_
                  rintro e w4 ⟨rfl, b4⟩
                  have hB4 := hB.trans (b4.mono hB.size)
                  go_wp2
                  go_roundw
                  case rel => exact ⟨t + 1, by omega, by omega, by go_num, hB4⟩
                  case measure => simp [intOf]; omega
                · rw [hp] at HT2
                  have hgtN : 0 < cj := by simpa using HT2.out
                  have hgtB : decide ((0 : Int) < (cj : Int)) = true := HT2.out
                  have hpp : (true != true) = false := rfl
                  obtain rfl : cw = 0 := by simpa using hp
                  clear HT2 hp
                  go_wp2_with fail
                  refine (IW1 _ (hL.below hB)).mono ?_
                  rintro e w4 ⟨rfl, b4⟩
                  have hB4 := hB.trans (b4.mono hB.size)
                  go_wp2
                  go_roundw
                  case rel => exact ⟨t + 1, by omega, by omega, by go_num, hB4⟩
                  case measure => simp [intOf]; omega
          · obtain rfl : t = 7 := by omega
            clear HE2 IWL htl ht1 ht7
            have hfd1 : ∀ (x : Int) (y : Value) W, (Instr.field 40 (.agg #[.int .i64 x, y]) 1).run Try.prog W = .ok y W := fun _ _ _ => by kernel_rfl
            have hmm : ((k : Int) == (k : Int)) = true := by simp
            go_wp2_with fail
            refine wp_region_noPanic ?_
            refine wp_region_held_drew (S := fun W' => W'.cell? ⟨w2.heap.size, 1, none⟩ = some (.slice a1 k c1) ∧ Below U.heap.size U W') (by kernel_rfl) (⟨y1, hB.drew⟩) (fun hH => ?_)
            refine hTake (i := 0) (v := ?_) rfl (by kernel_rfl) (by kernel_rfl) (by kernel_rfl) (by rfl) ?_ hH ?_
            rotate_left
            · intro W hW; (try dsimp only at hW); go_simp <;> with_reducible rfl
            simp only [Act.put, List.setIfInBounds_toArray, List.set_cons_zero, List.set_cons_succ]
            refine hTake (i := 1) (v := ?_) rfl (by kernel_rfl) (by kernel_rfl) (by kernel_rfl) (by rfl) ?_ hH ?_
            rotate_left
            · intro W hW; (try dsimp only at hW); go_simp <;> with_reducible rfl
            simp only [Act.put, List.setIfInBounds_toArray, List.set_cons_zero, List.set_cons_succ]
            refine hTake (i := 2) (v := ?_) rfl (by kernel_rfl) (by kernel_rfl) (by kernel_rfl) (by rfl) ?_ hH ?_
            rotate_left
            · intro W hW; (try dsimp only at hW); go_simp <;> with_reducible rfl
            simp only [Act.put, List.setIfInBounds_toArray, List.set_cons_zero, List.set_cons_succ]
            refine hTake (i := 3) (v := ?_) rfl (by kernel_rfl) (by kernel_rfl) (by kernel_rfl) (by rfl) ?_ hH ?_
            rotate_left
            · intro W hW; (try dsimp only at hW); go_simp <;> with_reducible rfl
            simp only [Act.put, List.setIfInBounds_toArray, List.set_cons_zero, List.set_cons_succ]
            refine wpAnyH_ready (rs := [4]) (by kernel_rfl) (by simp) ?_
            refine AllReadyH.cons rfl (fun K hK => ?_) AllReadyH.nil
            go_simp
            refine (SI _ (hL.below hH.2)).mono ?_
            rintro e w6 ⟨a8, m8, c8, rfl, _, r8, b6⟩
            obtain rfl : m8 = k := by have h1 := (owns_cells r8).hlen.out; have h2 := HL.out; omega
            clear r8
            go_wp2_with fail
            refine hK.out _ _ ?_ (fun hH => ?_)
            · exact ⟨keep_cell b6 hH.1, hH.2.trans (b6.mono hH.2.size)⟩
            clear hK K
            refine hTake (i := 5) (v := ?_) rfl (by kernel_rfl) (by kernel_rfl) (by kernel_rfl) (by rfl) ?_ hH ?_
            rotate_left
            · intro W hW; (try dsimp only at hW); go_simp <;> with_reducible rfl
            simp only [Act.put, List.setIfInBounds_toArray, List.set_cons_zero, List.set_cons_succ]
            refine hTake (i := 6) (v := ?_) rfl (by kernel_rfl) (by kernel_rfl) (by kernel_rfl) (by rfl) ?_ hH ?_
            rotate_left
            · intro W hW; (try dsimp only at hW); go_simp <;> with_reducible rfl
            simp only [Act.put, List.setIfInBounds_toArray, List.set_cons_zero, List.set_cons_succ]
            refine hTake (i := 7) (v := ?_) rfl (by kernel_rfl) (by kernel_rfl) (by kernel_rfl) (by rfl) ?_ hH ?_
            rotate_left
            · intro W hW; (try dsimp only at hW); go_simp <;> with_reducible rfl
            simp only [Act.put, List.setIfInBounds_toArray, List.set_cons_zero, List.set_cons_succ]
            refine hTake (i := 8) (v := ?_) rfl (by kernel_rfl) (by kernel_rfl) (by kernel_rfl) (by rfl) ?_ hH ?_
            rotate_left
            · intro W hW; (try dsimp only at hW); go_simp <;> with_reducible rfl
            simp only [Act.put, List.setIfInBounds_toArray, List.set_cons_zero, List.set_cons_succ]
            refine wpAnyH_done (by kernel_rfl) ?_ _
            refine NoPanic.normal ?_
            go_wp2
            go_ret
            exact ⟨rfl, b3.trans (hH.2.mono b3.size)⟩
  · rw [Ch.edgesR_bad HC.out h0] at SI II
    simp only at SI II
    have hc : (c != 0) = true := by simpa using h0
    have hcc : (c == c) = true := by simp
    clear HC h0 IWL
    go_wp2_with fail
    refine (II _ hL).mono ?_
    rintro e w2 ⟨a1, m1, c1, rfl, _, _, b2⟩
    have hL := hL.below b2
    have b2 := b1.trans (b2.mono b1.size)
    have kX : Below w2.heap.size w2 (w2.alloc (.cells #[.int .i64 c, .slice a1 m1 c1] 40)) := (Below.refl _ _).alloc (Nat.le_refl _) _
    obtain ⟨x0, x1, _, _⟩ := row2 (heap_alloc_new w2 (.cells #[.int .i64 c, .slice a1 m1 c1] 40))
    have hL := hL.below kX
    have b3 := b2.trans (kX.mono b2.size)
    have lx := lt_of_cell x0
    have hfd : ∀ (y : Value) W, (Instr.field 40 (.agg #[.int .i64 c, y]) 0).run Try.prog W = .ok (.int .i64 c) W := fun _ _ => by kernel_rfl
    clear b1 b2 kX II
    go_wp2_with fail
    refine wp_region_noPanic ?_
    refine wp_region_held_drew (S := fun W' => W'.cell? ⟨w2.heap.size, 0, none⟩ = some (.int .i64 c) ∧ Below w.heap.size w W') (by kernel_rfl) (⟨x0, b3.drew⟩) (fun hH => ?_)
    refine hTake (i := 0) (v := ?_) rfl (by kernel_rfl) (by kernel_rfl) (by kernel_rfl) (by rfl) ?_ hH ?_
    rotate_left
    · intro W hW; (try dsimp only at hW); go_simp <;> with_reducible rfl
    simp only [Act.put, List.setIfInBounds_toArray, List.set_cons_zero, List.set_cons_succ]
    refine hTake (i := 3) (v := ?_) rfl (by kernel_rfl) (by kernel_rfl) (by kernel_rfl) (by rfl) ?_ hH ?_
    rotate_left
    · intro W hW; (try dsimp only at hW); go_simp <;> with_reducible rfl
    simp only [Act.put, List.setIfInBounds_toArray, List.set_cons_zero, List.set_cons_succ]
    refine hTake (i := 4) (v := ?_) rfl (by kernel_rfl) (by kernel_rfl) (by kernel_rfl) (by rfl) ?_ hH ?_
    rotate_left
    · intro W hW; (try dsimp only at hW); go_simp <;> with_reducible rfl
    simp only [Act.put, List.setIfInBounds_toArray, List.set_cons_zero, List.set_cons_succ]
    refine wpAnyH_ready (rs := [1]) (by kernel_rfl) (by simp) ?_
    refine AllReadyH.cons rfl (fun K hK => ?_) AllReadyH.nil
    go_simp
    refine (SI _ (hL.below ((Below.refl _ _).drew))).mono ?_
    rintro e w4 ⟨a5, m5, c5, rfl, _, _, b4⟩
    go_wp2_with fail
    refine hK.out _ _ ?_ (fun hH => ?_)
    · exact ⟨keep_cell b4 hH.1, hH.2.trans (b4.mono hH.2.size)⟩
    clear hK K
    refine hTake (i := 2) (v := ?_) rfl (by kernel_rfl) (by kernel_rfl) (by kernel_rfl) (by rfl) ?_ hH ?_
    rotate_left
    · intro W hW; (try dsimp only at hW); go_simp <;> with_reducible rfl
    simp only [Act.put, List.setIfInBounds_toArray, List.set_cons_zero, List.set_cons_succ]
    refine hTake (i := 5) (v := ?_) rfl (by kernel_rfl) (by kernel_rfl) (by kernel_rfl) (by rfl) ?_ hH ?_
    rotate_left
    · intro W hW; (try dsimp only at hW); go_simp <;> with_reducible rfl
    simp only [Act.put, List.setIfInBounds_toArray, List.set_cons_zero, List.set_cons_succ]
    refine hTake (i := 6) (v := ?_) rfl (by kernel_rfl) (by kernel_rfl) (by kernel_rfl) (by rfl) ?_ hH ?_
    rotate_left
    · intro W hW; (try dsimp only at hW); go_simp <;> with_reducible rfl
    simp only [Act.put, List.setIfInBounds_toArray, List.set_cons_zero, List.set_cons_succ]
    refine wpAnyH_done (by kernel_rfl) ?_ _
    refine NoPanic.normal ?_
    go_wp2
    go_ret
    exact ⟨rfl, hH.2⟩
end Go.Proofs.Ytjagobcogkdfhaa

