
/- EvenLeaves of the model. -/
import Derived.Test.YtofhkncdjjlllaaMrgG
namespace Go.Proofs.Ytofhkncdjjlllaa
open Go.RowKit

theorem owns_capN6 {w : World} {base : Nat} {e : TypeId} {size : Nat} {a : Option Addr} {n cap : Nat} {xs : List Value} (h : w.ownsRow base e size (.slice a n cap) n xs) (h0 : 0 < n) : ∃ g, a = some ⟨g, 0, none⟩ ∧ n ≤ cap ∧ cap ≤ 9223372036854775807 := by
  rcases h.2 with ⟨_, h00⟩ | ⟨g, cp, cur, hv, _⟩
  · omega
  · have hv' := hv
    simp only [Value.slice.injEq, true_and] at hv
    obtain ⟨rfl, rfl⟩ := hv
    have := owns_capN h
    exact ⟨g, rfl, this.1, this.2⟩

set_option linter.unusedSimpArgs false in
set_option maxHeartbeats 8000000 in
theorem specEvenC_any (a : Option Addr) (n cap : Nat) (key : Int) (ls : List (List Ch.Row)) (w : World) (h : LvAt w a n ls) (hs : Ch.lvSize ls ≤ 1048576) (hcap : n ≤ cap) :
    Calls Try.prog 33 #[.slice a n cap, .int .i64 key] w fun e w' => ∃ a' m c', e = .returned (.agg #[.int .i64 (Ch.evenR ls key).1, .slice a' m c']) ∧ OwnLv w' w.heap.size (.slice a' m c') m (Ch.evenR ls key).2 ∧ Below w.heap.size w w' := by
  have HL := h.len
  have hn : n ≤ 1048576 := by unfold Ch.lvSize at hs; have := HL.out; omega
  have b0 : Below w.heap.size w (w.alloc (.cells #[.int .i64 0, .slice none 0 0] 46)) := (Below.refl _ _).alloc (Nat.le_refl _) _
  have FI := fun W hW => l4Asked_any a n cap key ls W hW hs
  cases hc0 : (Ch.pairAsked ls key != 0)
  · have h0 : Ch.pairAsked ls key = 0 := by simpa using hc0
    rw [h0] at FI
    obtain ⟨hg0, k, rfl, hk⟩ := Ch.asked_ok h0
    rw [Ch.evenR_ok h0]
    have hpp := Ch.pair_pos hg0 hk
    have HGT : Hid (∀ j, j < n → ((Ch.twoIn ls k (Ch.evens (Ch.pairAt ls k))).getD j []).length ≠ 0) := fun j hj => (Ch.good_leaf (Ch.even_good hg0 hk) j (by have := Ch.two_len ls k (Ch.evens (Ch.pairAt ls k)) hk; simp [Ch.evens] at this ⊢; have := HL.out; omega)).1
    have HST := Ch.two_small hs hk (mid := Ch.evens (Ch.pairAt ls k)) (Ch.evens_flat _) (by simp [Ch.evens])
    have TL := fun mid => Ch.two_len ls k mid hk
    have hg := Ch.good_at HL hg0
    rw [← HL.out] at hk TL
    clear h0 hc0
    go_enter Try.func33, Try.ntmps33
    go_wp2_with fail
    refine (FI _ (h.below b0)).mono ?_
    rintro e w1 ⟨rfl, bb1⟩
    obtain ⟨x0, x1⟩ := box2 bb1
    have f0 := box_froz bb1 0
    have f1 := box_froz bb1 1
    have hz := lt_of_cell x0
    have bE := b0.trans (bb1.mono b0.size)
    have hW := h.below bE
    obtain ⟨b, off, ai, ni, ci, rfl, hc, hr, hni⟩ := hW.leaf (k := k) (by omega)
    obtain ⟨b', off', aj, nj, cj, hbe, hc', hr', hnj⟩ := hW.leaf hk
    simp only [Option.some.injEq, Addr.mk.injEq, and_true] at hbe
    obtain ⟨rfl, rfl⟩ := hbe
    have HRl := hr.rlen
    have HRl' := hr'.rlen
    have hgi := hg k (by omega)
    have hgj := hg (k + 1) hk
    have HS := hid (Ch.lv_leaf hs k)
    have HS' := hid (Ch.lv_leaf hs (k + 1))
    have HPr : Hid (Ch.pairAt ls k = ls.getD k [] ++ ls.getD (k + 1) []) := rfl
    generalize ls.getD k [] = li at *
    generalize ls.getD (k + 1) [] = lj at *
    obtain ⟨b1, o1, rfl, _⟩ := hr.row (k := 0) (by have := HRl.out; omega)
    obtain ⟨b2, o2, rfl, _⟩ := hr'.row (k := 0) (by have := HRl'.out; omega)
    have hm1 : 0 + ni ≤ 2097152 := by have := HRl.out; have := HS.out; omega
    have hm2 : 0 + ni + nj ≤ 2097152 := by have := HRl.out; have := HRl'.out; have := HS.out; have := HS'.out; omega
    have HLp : Hid ((Ch.pairAt ls k).length = ni + nj) := by show _ = _; rw [HPr.out, List.length_append, HRl.out, HRl'.out]
    obtain ⟨hf, hhf⟩ : ∃ hf, hf = (ni + nj + 1) / 2 := ⟨_, rfl⟩
    have hq : ((ni : Int) + (nj : Int) + 1).tdiv 2 = (hf : Int) := by rw [Int.tdiv_eq_ediv_of_nonneg (by omega)]; omega
    have hq2 : ((ni : Int) + (nj : Int) + 1) / 2 = (hf : Int) := by omega
    have hL2 : 2 ≤ ni + nj ∧ ni + nj ≤ 8 := by have := HLp.out; omega
    have hh1 : 0 < hf := by omega
    have hh2 : hf < ni + nj := by omega
    have hh3 : (hf : Int) ≤ (ni : Int) + (nj : Int) := by omega
    have HEv : Hid (Ch.evens (Ch.pairAt ls k) = [(Ch.pairAt ls k).take hf, (Ch.pairAt ls k).drop hf]) := by show _ = _; unfold Ch.evens Ch.halfOf; rw [HLp.out, ← hhf]
    clear hhf
    have hki : (k : Int) + 1 < (n : Int) := by omega
    have hkt : ((k : Int) + 1).toNat = k + 1 := by omega
    have hkn : k < n := by omega
    have hwk : IntKind.i64.wrap ((k : Int) + 1) = (k : Int) + 1 := IntWalk.i64_in _ ⟨by omega, by omega⟩
    have hk0 : (0 : Int) ≤ (k : Int) + 1 := by omega
    have bL0 : Below w1.heap.size w1 w1.drew := (Below.refl _ _).drew
    have bL : Below w1.heap.size w1 (w1.drew.alloc (.cells #[] 42)) := bL0.alloc bL0.size _
    have e0 : (w1.drew.alloc (.cells #[] 42)).ownsRow w1.heap.size 42 3 (.slice (some ⟨w1.heap.size, 0, none⟩) 0 0) 0 (rcells []) := by
      have := empty_rows w1.drew w1.heap.size (by simp)
      simpa using this
    clear hgi hgj HS HS' hpp FI b0 bb1
    go_wp2
    refine wp_region_noPanic ?_
    refine wp_region_held_drew (S := fun W' => W'.cell? ⟨b, off + k, none⟩ = some (.slice (some ⟨b1, o1, none⟩) ni ci) ∧ W'.cell? ⟨b, off + (k + 1), none⟩ = some (.slice (some ⟨b2, o2, none⟩) nj cj)) (by kernel_rfl) (⟨hc, hc'⟩) (fun hH => ?_)
    refine hTake (i := 1) (v := ?_) rfl (by kernel_rfl) (by kernel_rfl) (by kernel_rfl) (by rfl) ?_ hH ?_
    rotate_left
    · intro W hW; (try dsimp only at hW); go_simp <;> with_reducible rfl
    simp only [Act.put, List.setIfInBounds_toArray, List.set_cons_zero, List.set_cons_succ]
    refine hTake (i := 2) (v := ?_) rfl (by kernel_rfl) (by kernel_rfl) (by kernel_rfl) (by rfl) ?_ hH ?_
    rotate_left
    · intro W hW; (try dsimp only at hW); go_simp <;> with_reducible rfl
    simp only [Act.put, List.setIfInBounds_toArray, List.set_cons_zero, List.set_cons_succ]
    refine hTake (i := 3) (v := ?_) rfl (by kernel_rfl) (by kernel_rfl) (by kernel_rfl) (by rfl) ?_ hH ?_
    rotate_left
    · intro W hW; (try dsimp only at hW); go_simp <;> with_reducible rfl
    simp only [Act.put, List.setIfInBounds_toArray, List.set_cons_zero, List.set_cons_succ]
    refine hTake (i := 4) (v := ?_) rfl (by kernel_rfl) (by kernel_rfl) (by kernel_rfl) (by rfl) ?_ hH ?_
    rotate_left
    · intro W hW; (try dsimp only at hW); go_simp <;> with_reducible rfl
    simp only [Act.put, List.setIfInBounds_toArray, List.set_cons_zero, List.set_cons_succ]
    refine hTake (i := 5) (v := ?_) rfl (by kernel_rfl) (by kernel_rfl) (by kernel_rfl) (by rfl) ?_ hH ?_
    rotate_left
    · intro W hW; (try dsimp only at hW); go_simp <;> with_reducible rfl
    simp only [Act.put, List.setIfInBounds_toArray, List.set_cons_zero, List.set_cons_succ]
    refine hTake (i := 7) (v := ?_) rfl (by kernel_rfl) (by kernel_rfl) (by kernel_rfl) (by rfl) ?_ hH ?_
    rotate_left
    · intro W hW; (try dsimp only at hW); go_simp <;> with_reducible rfl
    simp only [Act.put, List.setIfInBounds_toArray, List.set_cons_zero, List.set_cons_succ]
    refine hTake (i := 8) (v := ?_) rfl (by kernel_rfl) (by kernel_rfl) (by kernel_rfl) (by rfl) ?_ hH ?_
    rotate_left
    · intro W hW; (try dsimp only at hW); go_simp <;> with_reducible rfl
    simp only [Act.put, List.setIfInBounds_toArray, List.set_cons_zero, List.set_cons_succ]
    refine hTake (i := 9) (v := ?_) rfl (by kernel_rfl) (by kernel_rfl) (by kernel_rfl) (by rfl) ?_ hH ?_
    rotate_left
    · intro W hW; (try dsimp only at hW); go_simp <;> with_reducible rfl
    simp only [Act.put, List.setIfInBounds_toArray, List.set_cons_zero, List.set_cons_succ]
    refine hTake (i := 10) (v := ?_) rfl (by kernel_rfl) (by kernel_rfl) (by kernel_rfl) (by rfl) ?_ hH ?_
    rotate_left
    · intro W hW; (try dsimp only at hW); go_simp <;> with_reducible rfl
    simp only [Act.put, List.setIfInBounds_toArray, List.set_cons_zero, List.set_cons_succ]
    refine hTake (i := 11) (v := ?_) rfl (by kernel_rfl) (by kernel_rfl) (by kernel_rfl) (by rfl) ?_ hH ?_
    rotate_left
    · intro W hW; (try dsimp only at hW); go_simp <;> with_reducible rfl
    simp only [Act.put, List.setIfInBounds_toArray, List.set_cons_zero, List.set_cons_succ]
    refine hTake (i := 12) (v := ?_) rfl (by kernel_rfl) (by kernel_rfl) (by kernel_rfl) (by rfl) ?_ hH ?_
    rotate_left
    · intro W hW; (try dsimp only at hW); go_simp <;> with_reducible rfl
    simp only [Act.put, List.setIfInBounds_toArray, List.set_cons_zero, List.set_cons_succ]
    refine wpAnyH_ready (rs := [0]) (by kernel_rfl) (by simp) ?_
    refine AllReadyH.cons rfl (fun K hK => ?_) AllReadyH.nil
    go_simp
    refine hK.out _ _ (⟨keep_cell bL hc, keep_cell bL hc'⟩) (fun hH => ?_)
    clear hK K
    refine wpAnyH_ready (rs := [6]) (by kernel_rfl) (by simp) ?_
    refine AllReadyH.cons rfl (fun K hK => ?_) AllReadyH.nil
    refine step_appRsB (.tmp 15) (.tmp 20) (w1.heap.size) (.slice (some ⟨w1.heap.size, 0, none⟩) 0 0) (0) ([]) (ni) (li) hm1 ?_ ?_ ?_ ?_ ?_ ?_ ?_
    · exact rfl
    · exact rfl
    · exact rfl
    · exact ⟨_, _, rfl, hr.below bL⟩
    · exact e0
    · exact (by simp)
    intro a4 c4 w4 own4 b4
    have B4 := bL.trans b4
    have z4 := B4.size
    refine hK.out _ _ (⟨keep_cell B4 hc, keep_cell B4 hc'⟩) (fun hH => ?_)
    clear hK K
    refine wpAnyH_ready (rs := [13]) (by kernel_rfl) (by simp) ?_
    refine AllReadyH.cons rfl (fun K hK => ?_) AllReadyH.nil
    refine step_appRsB (.tmp 21) (.tmp 27) (w1.heap.size) (.slice a4 (0 + ni) c4) (0 + ni) ([] ++ li) (nj) (lj) hm2 ?_ ?_ ?_ ?_ ?_ ?_ ?_
    · exact rfl
    · exact rfl
    · exact rfl
    · exact ⟨_, _, rfl, hr'.below B4⟩
    · exact own4
    · exact z4
    intro a6 c6 w6 own6 b6
    have B6 := B4.trans b6
    have z6 := B6.size
    refine hK.out _ _ (⟨keep_cell B6 hc, keep_cell B6 hc'⟩) (fun hH => ?_)
    clear hK K
    refine hTake (i := 14) (v := ?_) rfl (by kernel_rfl) (by kernel_rfl) (by kernel_rfl) (by rfl) ?_ hH ?_
    rotate_left
    · intro W hW; (try dsimp only at hW); go_simp <;> with_reducible rfl
    simp only [Act.put, List.setIfInBounds_toArray, List.set_cons_zero, List.set_cons_succ]
    refine wpAnyH_done (by kernel_rfl) ?_ _
    refine NoPanic.normal ?_
    clear hH hc hc'
    rw [List.nil_append, ← HPr.out] at own6
    rw [Nat.zero_add] at own6
    have bE6 := bE.trans (B6.mono bE.size)
    replace x0 := keep_cell B6 x0
    replace x1 := keep_cell B6 x1
    replace f0 := ((bcell B6).2 w.heap.size 0 hz).trans f0
    replace f1 := ((bcell B6).2 w.heap.size 1 hz).trans f1
    have hz6 := lt_of_cell x0
    have hW6 := h.below bE6
    clear hr hr' e0 own4 b4 B4 z4 b6 bL bL0 HRl HRl' hni hnj
    have hcapw := owns_capN6 own6 (by omega)
    obtain ⟨g6, rfl, hc6, hc66⟩ := hcapw
    have own6' : w6.ownsRow w1.heap.size 42 3 (.slice (some ⟨g6, 0, none⟩) (ni + nj) c6) (ni + nj) (rcells (Ch.pairAt ls k)) := own6
    have hcells := owns_cells own6'
    have hcL := hcells.cutL (k := hf) (by omega)
    have hcR := hcells.cutR (k := hf) (by omega)
    rw [Nat.zero_add] at hcR
    have hh4 : hf ≤ c6 := by omega
    have hh5 : ¬ c6 = hf := by omega
    have hh6 : hf ≤ ni + nj := by omega
    rw [HEv.out] at HST HGT
    have bD0 : Below w6.heap.size w6 w6.drew := (Below.refl _ _).drew
    have bD : Below w6.heap.size w6 (w6.drew.alloc (.cells #[.slice (some ⟨g6, 0, none⟩) hf c6, .slice (some ⟨g6, hf * 3, none⟩) (ni + nj - hf) (c6 - hf)] 59)) := bD0.alloc bD0.size _
    have L1 : LvAt (w6.drew.alloc (.cells #[.slice (some ⟨g6, 0, none⟩) hf c6, .slice (some ⟨g6, hf * 3, none⟩) (ni + nj - hf) (c6 - hf)] 59)) (some ⟨w6.heap.size, 0, none⟩) 2 [(Ch.pairAt ls k).take hf, (Ch.pairAt ls k).drop hf] := ⟨rfl, _, two_leaves rfl, fun i hi => by
      rcases (show i = 0 ∨ i = 1 by omega) with rfl | rfl
      · exact ⟨_, hf, c6, rfl, hcL.below bD, by omega⟩
      · exact ⟨_, ni + nj - hf, c6 - hf, rfl, hcR.below bD, by omega⟩⟩
    go_wp2
    refine wp_region_noPanic ?_
    refine wp_region_held_drew (S := fun _ => True) (by kernel_rfl) trivial (fun hH => ?_)
    refine hTake (i := 0) (v := ?_) rfl (by kernel_rfl) (by kernel_rfl) (by kernel_rfl) (by rfl) ?_ hH ?_
    rotate_left
    · intro W hW; (try dsimp only at hW); go_simp <;> with_reducible rfl
    simp only [Act.put, List.setIfInBounds_toArray, List.set_cons_zero, List.set_cons_succ]
    refine hTake (i := 1) (v := ?_) rfl (by kernel_rfl) (by kernel_rfl) (by kernel_rfl) (by rfl) ?_ hH ?_
    rotate_left
    · intro W hW; (try dsimp only at hW); go_simp <;> with_reducible rfl
    simp only [Act.put, List.setIfInBounds_toArray, List.set_cons_zero, List.set_cons_succ]
    refine hTake (i := 2) (v := ?_) rfl (by kernel_rfl) (by kernel_rfl) (by kernel_rfl) (by rfl) ?_ hH ?_
    rotate_left
    · intro W hW; (try dsimp only at hW); go_simp <;> with_reducible rfl
    simp only [Act.put, List.setIfInBounds_toArray, List.set_cons_zero, List.set_cons_succ]
    refine hTake (i := 3) (v := ?_) rfl (by kernel_rfl) (by kernel_rfl) (by kernel_rfl) (by rfl) ?_ hH ?_
    rotate_left
    · intro W hW; (try dsimp only at hW); go_simp <;> with_reducible rfl
    simp only [Act.put, List.setIfInBounds_toArray, List.set_cons_zero, List.set_cons_succ]
    refine hTake (i := 4) (v := ?_) rfl (by kernel_rfl) (by kernel_rfl) (by kernel_rfl) (by rfl) ?_ hH ?_
    rotate_left
    · intro W hW; (try dsimp only at hW); go_simp <;> with_reducible rfl
    simp only [Act.put, List.setIfInBounds_toArray, List.set_cons_zero, List.set_cons_succ]
    refine hTake (i := 5) (v := ?_) rfl (by kernel_rfl) (by kernel_rfl) (by kernel_rfl) (by rfl) ?_ hH ?_
    rotate_left
    · intro W hW; (try dsimp only at hW); go_simp <;> with_reducible rfl
    simp only [Act.put, List.setIfInBounds_toArray, List.set_cons_zero, List.set_cons_succ]
    refine hTake (i := 6) (v := ?_) rfl (by kernel_rfl) (by kernel_rfl) (by kernel_rfl) (by rfl) ?_ hH ?_
    rotate_left
    · intro W hW; (try dsimp only at hW); go_simp <;> with_reducible rfl
    simp only [Act.put, List.setIfInBounds_toArray, List.set_cons_zero, List.set_cons_succ]
    refine hTake (i := 7) (v := ?_) rfl (by kernel_rfl) (by kernel_rfl) (by kernel_rfl) (by rfl) ?_ hH ?_
    rotate_left
    · intro W hW; (try dsimp only at hW); go_simp <;> with_reducible rfl
    simp only [Act.put, List.setIfInBounds_toArray, List.set_cons_zero, List.set_cons_succ]
    refine hTake (i := 8) (v := ?_) rfl (by kernel_rfl) (by kernel_rfl) (by kernel_rfl) (by rfl) ?_ hH ?_
    rotate_left
    · intro W hW; (try dsimp only at hW); go_simp <;> with_reducible rfl
    simp only [Act.put, List.setIfInBounds_toArray, List.set_cons_zero, List.set_cons_succ]
    refine hTake (i := 9) (v := ?_) rfl (by kernel_rfl) (by kernel_rfl) (by kernel_rfl) (by rfl) ?_ hH ?_
    rotate_left
    · intro W hW; (try dsimp only at hW); go_simp <;> with_reducible rfl
    simp only [Act.put, List.setIfInBounds_toArray, List.set_cons_zero, List.set_cons_succ]
    refine wpAnyH_ready (rs := [10]) (by kernel_rfl) (by simp) ?_
    refine AllReadyH.cons rfl (fun K hK => ?_) AllReadyH.nil
    go_simp
    refine hK.out _ _ (trivial) (fun hH => ?_)
    clear hK K
    refine wpAnyH_ready (rs := [11]) (by kernel_rfl) (by simp) ?_
    refine AllReadyH.cons rfl (fun K hK => ?_) AllReadyH.nil
    go_simp
    refine (l4Two_any b off n cap k w6.heap.size 2 2 n ls [(Ch.pairAt ls k).take hf, (Ch.pairAt ls k).drop hf] _ (hW6.below bD) L1 hk hcap hn (by omega) (by omega) HST (fun j hj => HGT.out j hj)).mono ?_
    rintro e w7 ⟨a7, c7, rfl, oL, b7⟩
    go_wp2_with fail
    refine hK.out _ _ (trivial) (fun hH => ?_)
    clear hK K
    have b7w := bD.trans (b7.mono bD.size)
    have x0 := keep_cell b7w x0
    have x1 := keep_cell b7w x1
    have f0 := ((bcell b7w).2 w.heap.size 0 hz6).trans f0
    have f1 := ((bcell b7w).2 w.heap.size 1 hz6).trans f1
    refine hTake (i := 12) (v := ?_) rfl (by kernel_rfl) (by kernel_rfl) (by kernel_rfl) (by rfl) ?_ hH ?_
    rotate_left
    · intro W hW; (try dsimp only at hW); go_simp <;> with_reducible rfl
    simp only [Act.put, List.setIfInBounds_toArray, List.set_cons_zero, List.set_cons_succ]
    refine wpAnyH_ready (rs := [13]) (by kernel_rfl) (by simp) ?_
    refine AllReadyH.cons rfl (fun K hK => ?_) AllReadyH.nil
    go_simp
    refine hK.out _ _ (trivial) (fun hH => ?_)
    clear hK K
    refine wpAnyH_done (by kernel_rfl) ?_ _
    refine NoPanic.normal ?_
    clear hH
    have bE7 := bE6.trans (b7w.mono bE6.size)
    go_wp2
    refine bodyPost_ret (v := .agg #[.int .i64 0, .slice a7 n c7]) (by simp [results, Try.results33, go_sem, x0, x1]) rfl ⟨_, n, c7, rfl, ?_, ?_⟩
    · have hzz : w.heap.size < (w6.drew.alloc (.cells #[.slice (some ⟨g6, 0, none⟩) hf c6, .slice (some ⟨g6, hf * 3, none⟩) (ni + nj - hf) (c6 - hf)] 59)).heap.size := by simp; omega
      rw [HEv.out]
      exact ((oL.box hzz _).box hzz _).base (by omega)
    · exact (bE7.setCell (p := ⟨w.heap.size, 0, none⟩) (Nat.le_refl _) _).setCell (p := ⟨w.heap.size, 1, none⟩) (Nat.le_refl _) _
  · rw [Ch.evenR_no hc0]
    go_enter Try.func33, Try.ntmps33
    go_wp2_with fail
    refine (FI _ (h.below b0)).mono ?_
    rintro e w1 ⟨rfl, b1⟩
    obtain ⟨x0, x1⟩ := box2 b1
    have f0 := box_froz b1 0
    have f1 := box_froz b1 1
    have hz := lt_of_cell x0
    have bE := b0.trans (b1.mono b0.size)
    clear FI
    generalize hq : Ch.pairAsked ls key = c at *
    go_wp2
    exact bodyPost_ret (v := .agg #[.int .i64 c, .slice none 0 0]) (by simp [results, Try.results33, go_sem, x0, x1]) rfl ⟨none, 0, 0, by rw [hq], OwnLv.nil _ _, (bE.setCell (p := ⟨w.heap.size, 0, none⟩) (Nat.le_refl _) _).setCell (p := ⟨w.heap.size, 1, none⟩) (Nat.le_refl _) _⟩
end Go.Proofs.Ytofhkncdjjlllaa
