
/- The law FnExactAppendWal. -/
import Derived.Test.YtapahapjajijeaaAppC
import Derived.Test.YtapahapjajijeaaForceL
namespace Go.Proofs.Ytapahapjajijeaa
open Go.RowKit

/-- A result of a log in a box of its own. -/
def ResAt (wx A : World) (P : Nat) (fc fn : Int) (a : Option Addr) (k c : Nat) (e : Option Addr) (j f : Nat) (fs fl : List Int) : Prop :=
  A.heap.size ≤ P ∧ P < wx.heap.size ∧ wx.cell? ⟨P, 0, none⟩ = some (.int .i64 fc) ∧ wx.cell? ⟨P, 1, none⟩ = some (.int .i64 fn) ∧ wx.cell? ⟨P, 2, none⟩ = some (.slice a k c) ∧ wx.cell? ⟨P, 3, none⟩ = some (.slice e j f) ∧
  k ≤ 1048576 ∧ j ≤ 1048576 ∧ wx.ownsRow A.heap.size 5 1 (.slice a k c) k (bts fs) ∧ wx.ownsRow A.heap.size 5 1 (.slice e j f) j (bts fl) ∧
  (∀ g, (Value.slice a k c).ownBlock = some g → g ≠ P) ∧ (∀ g, (Value.slice e j f).ownBlock = some g → g ≠ P) ∧ Below A.heap.size A wx
theorem owns_cell {w : World} {base : Nat} {e : TypeId} {size : Nat} {v : Value} {n : Nat} {xs : List Value} (h : w.ownsRow base e size v n xs) {p o : Nat} (hne : ∀ g, v.ownBlock = some g → g ≠ p) (u : Value) : (w.setCell ⟨p, o, none⟩ u).ownsRow base e size v n xs := by
  refine ⟨h.1, ?_⟩
  rcases h.2 with h' | ⟨g, cap, cur, hv, hb, hh, h1, h2, h3, h4⟩
  · exact .inl h'
  · refine .inr ⟨g, cap, cur, hv, hb, ?_, h1, h2, h3, h4⟩
    rw [Below.heap_setCell _ _ _ _ (hne g (by rw [hv]; rfl))]; exact hh

set_option linter.unusedSimpArgs false in
set_option maxHeartbeats 8000000 in
theorem lawApp_any (a a' : Option Addr) (n m cap cap' : Nat) (ss ls : List Int) (kd tx ky : Int) (hd : Bool) (ol : Int) (hs : Bool) (nw : Int) (w : World) (h : CellsAt w a n (bts ss)) (h' : CellsAt w a' m (bts ls)) (hb : IsB ss) (hb' : IsB ls) (hn : n ≤ 9223372036854775807) (hm : m ≤ 9223372036854775807) :
    Calls Try.prog 6 #[.agg #[.slice a n cap, .slice a' m cap'], .agg #[.int .i64 kd, .int .i64 tx, .int .i64 ky, .bool hd, .int .i64 ol, .bool hs, .int .i64 nw]] w fun e w' => e = .returned (.bool true) ∧ Below w.heap.size w w' := by
  by_cases hsm : Small n m
  · have hn' : n ≤ 1048576 := by unfold Small at hsm; omega
    have hm' : m ≤ 1048576 := by unfold Small at hsm; omega
    have n2 : ¬ (1048576 : Int) - (n : Int) - (m : Int) < 0 := by unfold Small at hsm; omega
    have SI := fun (W : World) (ad ad' : Addr) (h1 : CellsAt W (some ad) n (bts ss)) (h2 : CellsAt W (some ad') m (bts ls)) => specApp_any ad ad' n m n m ss ls kd tx ky hd ol hs nw W h1 h2 hb hb' hn' hm' (Nat.le_refl _) (Nat.le_refl _)
    have II := fun (W : World) (ad ad' : Addr) (h1 : CellsAt W (some ad) n (bts ss)) (h2 : CellsAt W (some ad') m (bts ls)) => implApp_any ad ad' n m n m ss ls kd tx ky hd ol hs nw W h1 h2 hb hb' hn' hm' (Nat.le_refl _) (Nat.le_refl _)
    generalize Ch.appR ss ls ⟨kd, tx, ky, hd, ol, hs, nw⟩ = fr at SI II
    obtain ⟨fc, fn, fs, fl⟩ := fr
    simp only at SI II
    go_enter Try.func6, Try.ntmps6
    go_wp2_with fail
    refine (szWal_ok a a' n m cap cap' _ hsm).mono ?_
    clear hsm
    rintro e w0 ⟨rfl, bz⟩
    have b0 := below_two bz
    obtain ⟨cA, _⟩ := bcell bz
    have u0 := cA w.heap.size 0 (by simp; omega)
    have u1 := cA w.heap.size 1 (by simp; omega)
    have r0 := cA (w.heap.size + 1) 0 (by simp)
    have r1 := cA (w.heap.size + 1) 1 (by simp)
    have r2 := cA (w.heap.size + 1) 2 (by simp)
    have r3 := cA (w.heap.size + 1) 3 (by simp)
    have r4 := cA (w.heap.size + 1) 4 (by simp)
    have r5 := cA (w.heap.size + 1) 5 (by simp)
    have r6 := cA (w.heap.size + 1) 6 (by simp)
    simp [go_sem] at u0 u1 r0 r1 r2 r3 r4 r5 r6
    clear cA bz
    have zR := lt_of_cell r0
    have z0 := b0.size
    go_upto_region 5 with fail
    go_cut [6] (fun s wx => ∃ P a2 k2 c2 e2 j2 f2, s = .pointer (some ⟨P, 0, none⟩) ∧ ResAt wx w0 P fc fn a2 k2 c2 e2 j2 f2 fs fl)
    case first =>
      have BASE : Hid (∀ W, Below w0.heap.size w0 W → Below w.heap.size w W) := fun W hW => b0.trans (hW.mono b0.size)
      have HS : Hid (∀ W', Below w0.heap.size w0 W' → W'.cell? ⟨w.heap.size, 0, none⟩ = some (.slice a n cap) ∧ W'.cell? ⟨w.heap.size, 1, none⟩ = some (.slice a' m cap') ∧ W'.cell? ⟨w.heap.size + 1, 0, none⟩ = some (.int .i64 kd) ∧ W'.cell? ⟨w.heap.size + 1, 1, none⟩ = some (.int .i64 tx) ∧ W'.cell? ⟨w.heap.size + 1, 2, none⟩ = some (.int .i64 ky) ∧ W'.cell? ⟨w.heap.size + 1, 3, none⟩ = some (.bool hd) ∧ W'.cell? ⟨w.heap.size + 1, 4, none⟩ = some (.int .i64 ol) ∧ W'.cell? ⟨w.heap.size + 1, 5, none⟩ = some (.bool hs) ∧ W'.cell? ⟨w.heap.size + 1, 6, none⟩ = some (.int .i64 nw)) := fun W' hW => ⟨keep_cell hW u0, keep_cell hW u1, keep_cell hW r0, keep_cell hW r1, keep_cell hW r2, keep_cell hW r3, keep_cell hW r4, keep_cell hW r5, keep_cell hW r6⟩
      refine wp_region_noPanic ?_
      refine wp_region_held_drew (S := fun W' => W'.cell? ⟨w.heap.size, 0, none⟩ = some (.slice a n cap) ∧ W'.cell? ⟨w.heap.size, 1, none⟩ = some (.slice a' m cap') ∧ W'.cell? ⟨w.heap.size + 1, 0, none⟩ = some (.int .i64 kd) ∧ W'.cell? ⟨w.heap.size + 1, 1, none⟩ = some (.int .i64 tx) ∧ W'.cell? ⟨w.heap.size + 1, 2, none⟩ = some (.int .i64 ky) ∧ W'.cell? ⟨w.heap.size + 1, 3, none⟩ = some (.bool hd) ∧ W'.cell? ⟨w.heap.size + 1, 4, none⟩ = some (.int .i64 ol) ∧ W'.cell? ⟨w.heap.size + 1, 5, none⟩ = some (.bool hs) ∧ W'.cell? ⟨w.heap.size + 1, 6, none⟩ = some (.int .i64 nw)) (by kernel_rfl) (HS.out _ (Below.refl _ _).drew) (fun hH => ?_)
      refine hTake (i := 0) (v := ?_) rfl (by kernel_rfl) (by kernel_rfl) (by kernel_rfl) (by rfl) ?_ hH ?_
      rotate_left
      · intro W hW; (try dsimp only at hW); go_simp <;> with_reducible rfl
      simp only [Act.put, List.setIfInBounds_toArray, List.set_cons_zero, List.set_cons_succ]
      refine hTake (i := 2) (v := ?_) rfl (by kernel_rfl) (by kernel_rfl) (by kernel_rfl) (by rfl) ?_ hH ?_
      rotate_left
      · intro W hW; (try dsimp only at hW); go_simp <;> with_reducible rfl
      simp only [Act.put, List.setIfInBounds_toArray, List.set_cons_zero, List.set_cons_succ]
      have bd : Below w0.heap.size w0 w0.drew := (Below.refl _ _).drew
      have zd := bd.size
      generalize w0.drew = w0d at *
      refine wpAnyH_ready (rs := [1, 5]) (by kernel_rfl) (by simp) ?_
      refine AllReadyH.cons rfl (fun K hK => ?_) (AllReadyH.cons rfl (fun K hK => ?_) AllReadyH.nil)
      focus
        go_simp
        refine (toWal_any a a' n m cap cap' ss ls _ (h.below (BASE.out _ bd)) (h'.below (BASE.out _ bd)) hn' hm').mono ?_
        rintro e wa ⟨g1, g2, rfl, o1, o2, hg, bwa⟩
        have zwa := bwa.size
        have Bwa := bd.trans (bwa.mono bd.size)
        have Lo1 := owns_lt o1
        have Lo2 := owns_lt o2
        go_wp2_with fail
        refine hK.out _ _ ?_ (fun hH => ?_)
        · exact HS.out _ Bwa
        clear hK K
        refine wpAnyH_ready (rs := [3, 5]) (by kernel_rfl) (by simp) ?_
        refine AllReadyH.cons rfl (fun K hK => ?_) (AllReadyH.cons rfl (fun K hK => ?_) AllReadyH.nil)
        focus
          go_simp
          refine (toRec_any kd tx ky hd ol hs nw _).mono ?_
          rintro e wb ⟨rfl, bwb⟩
          have zwb := bwb.size
          have Bwb := Bwa.trans (bwb.mono Bwa.size)
          have o1 := owns_below o1 bwb
          have o2 := owns_below o2 bwb
          go_wp2_with fail
          refine hK.out _ _ ?_ (fun hH => ?_)
          · exact HS.out _ Bwb
          clear hK K
          refine wpAnyH_ready (rs := [4, 5]) (by kernel_rfl) (by simp) ?_
          refine AllReadyH.cons rfl (fun K hK => ?_) (AllReadyH.cons rfl (fun K hK => ?_) AllReadyH.nil)
          focus
            go_simp
            refine (SI _ ⟨g1, 0, none⟩ ⟨g2, 0, none⟩ (owns_bytes o1) (owns_bytes o2)).mono ?_
            rintro e wc1 ⟨a2, k2, c2, e2, j2, f2, rfl, hk, hj, t1, t2, bwc1⟩
            have zwc1 := bwc1.size
            have Bwc1 := Bwb.trans (bwc1.mono Bwb.size)
            have o1 := owns_below o1 bwc1
            have o2 := owns_below o2 bwc1
            have Lt1 := owns_lt t1
            have Lt2 := owns_lt t2
            go_wp2_with fail
            refine hK.out _ _ ?_ (fun hH => ?_)
            · exact HS.out _ Bwc1
            clear hK K
            refine wpAnyH_ready (rs := [5]) (by kernel_rfl) (by simp) ?_
            refine AllReadyH.cons rfl (fun K hK => ?_) AllReadyH.nil
            go_simp
            refine hK.out _ _ ?_ (fun hH => ?_)
            · exact HS.out _ (Bwc1.alloc Bwc1.size _)
            clear hK K
            have bal : Below wc1.heap.size wc1 (wc1.alloc (.cells #[.int .i64 0, .int .i64 0, .slice none 0 0, .slice none 0 0] 41)) := (Below.refl _ _).alloc (Nat.le_refl _) _
            have hPA := Bwc1.size
            have Bwc1A := Bwc1.alloc Bwc1.size (.cells #[.int .i64 0, .int .i64 0, .slice none 0 0, .slice none 0 0] 41)
            have bp0 : (wc1.alloc (.cells #[.int .i64 0, .int .i64 0, .slice none 0 0, .slice none 0 0] 41)).cell? ⟨wc1.heap.size, 0, none⟩ = some (.int .i64 0) := by simp [go_sem]
            have bq0 : (wc1.alloc (.cells #[.int .i64 0, .int .i64 0, .slice none 0 0, .slice none 0 0] 41)).frozen? ⟨wc1.heap.size, 0, none⟩ = false := by simp [go_sem]
            have bp1 : (wc1.alloc (.cells #[.int .i64 0, .int .i64 0, .slice none 0 0, .slice none 0 0] 41)).cell? ⟨wc1.heap.size, 1, none⟩ = some (.int .i64 0) := by simp [go_sem]
            have bq1 : (wc1.alloc (.cells #[.int .i64 0, .int .i64 0, .slice none 0 0, .slice none 0 0] 41)).frozen? ⟨wc1.heap.size, 1, none⟩ = false := by simp [go_sem]
            have bp2 : (wc1.alloc (.cells #[.int .i64 0, .int .i64 0, .slice none 0 0, .slice none 0 0] 41)).cell? ⟨wc1.heap.size, 2, none⟩ = some (.slice none 0 0) := by simp [go_sem]
            have bq2 : (wc1.alloc (.cells #[.int .i64 0, .int .i64 0, .slice none 0 0, .slice none 0 0] 41)).frozen? ⟨wc1.heap.size, 2, none⟩ = false := by simp [go_sem]
            have bp3 : (wc1.alloc (.cells #[.int .i64 0, .int .i64 0, .slice none 0 0, .slice none 0 0] 41)).cell? ⟨wc1.heap.size, 3, none⟩ = some (.slice none 0 0) := by simp [go_sem]
            have bq3 : (wc1.alloc (.cells #[.int .i64 0, .int .i64 0, .slice none 0 0, .slice none 0 0] 41)).frozen? ⟨wc1.heap.size, 3, none⟩ = false := by simp [go_sem]
            have o1 := owns_below o1 bal
            have o2 := owns_below o2 bal
            have t1 := owns_below t1 bal
            have t2 := owns_below t2 bal
            generalize wc1.alloc (.cells #[.int .i64 0, .int .i64 0, .slice none 0 0, .slice none 0 0] 41) = wc1A at *
            refine wpAnyH_ready (rs := [6]) (by kernel_rfl) (by simp) ?_
            refine AllReadyH.cons rfl (fun K hK => ?_) AllReadyH.nil
            go_simp
            refine hK.out _ _ ?_ (fun hH => ?_)
            · exact HS.out _ ((((Bwc1A.setCell (p := ⟨wc1.heap.size, 0, none⟩) hPA _).setCell (p := ⟨wc1.heap.size, 1, none⟩) hPA _).setCell (p := ⟨wc1.heap.size, 2, none⟩) hPA _).setCell (p := ⟨wc1.heap.size, 3, none⟩) hPA _)
            clear hK K
            refine wpAnyH_done (by kernel_rfl) ?_ _
            refine NoPanic.normal ?_
            go_wp2_with fail
            go_meet
            exact ⟨wc1.heap.size, _, _, _, _, _, _, rfl, ⟨hPA, by have := lt_of_cell bp0; simp; omega, by simp [go_sem, bp0, bp1, bp2, bp3], by simp [go_sem, bp0, bp1, bp2, bp3], by simp [go_sem, bp0, bp1, bp2, bp3], by simp [go_sem, bp0, bp1, bp2, bp3], by omega, by omega, owns_base (owns_cell (owns_cell (owns_cell (owns_cell t1 (p := wc1.heap.size) (o := 0) (fun g hg => by have := Lt1 g hg; omega) _) (p := wc1.heap.size) (o := 1) (fun g hg => by have := Lt1 g hg; omega) _) (p := wc1.heap.size) (o := 2) (fun g hg => by have := Lt1 g hg; omega) _) (p := wc1.heap.size) (o := 3) (fun g hg => by have := Lt1 g hg; omega) _) (by omega), owns_base (owns_cell (owns_cell (owns_cell (owns_cell t2 (p := wc1.heap.size) (o := 0) (fun g hg => by have := Lt2 g hg; omega) _) (p := wc1.heap.size) (o := 1) (fun g hg => by have := Lt2 g hg; omega) _) (p := wc1.heap.size) (o := 2) (fun g hg => by have := Lt2 g hg; omega) _) (p := wc1.heap.size) (o := 3) (fun g hg => by have := Lt2 g hg; omega) _) (by omega), fun g hg => by have := Lt1 g hg; omega, fun g hg => by have := Lt2 g hg; omega, ((((Bwc1A.setCell (p := ⟨wc1.heap.size, 0, none⟩) hPA _).setCell (p := ⟨wc1.heap.size, 1, none⟩) hPA _).setCell (p := ⟨wc1.heap.size, 2, none⟩) hPA _).setCell (p := ⟨wc1.heap.size, 3, none⟩) hPA _)⟩⟩
          focus
            go_simp
            refine hK.out _ _ ?_ (fun hH => ?_)
            · exact HS.out _ (Bwb.alloc Bwb.size _)
            clear hK K
            have bal : Below wb.heap.size wb (wb.alloc (.cells #[.int .i64 0, .int .i64 0, .slice none 0 0, .slice none 0 0] 41)) := (Below.refl _ _).alloc (Nat.le_refl _) _
            have hPA := Bwb.size
            have BwbA := Bwb.alloc Bwb.size (.cells #[.int .i64 0, .int .i64 0, .slice none 0 0, .slice none 0 0] 41)
            have bp0 : (wb.alloc (.cells #[.int .i64 0, .int .i64 0, .slice none 0 0, .slice none 0 0] 41)).cell? ⟨wb.heap.size, 0, none⟩ = some (.int .i64 0) := by simp [go_sem]
            have bq0 : (wb.alloc (.cells #[.int .i64 0, .int .i64 0, .slice none 0 0, .slice none 0 0] 41)).frozen? ⟨wb.heap.size, 0, none⟩ = false := by simp [go_sem]
            have bp1 : (wb.alloc (.cells #[.int .i64 0, .int .i64 0, .slice none 0 0, .slice none 0 0] 41)).cell? ⟨wb.heap.size, 1, none⟩ = some (.int .i64 0) := by simp [go_sem]
            have bq1 : (wb.alloc (.cells #[.int .i64 0, .int .i64 0, .slice none 0 0, .slice none 0 0] 41)).frozen? ⟨wb.heap.size, 1, none⟩ = false := by simp [go_sem]
            have bp2 : (wb.alloc (.cells #[.int .i64 0, .int .i64 0, .slice none 0 0, .slice none 0 0] 41)).cell? ⟨wb.heap.size, 2, none⟩ = some (.slice none 0 0) := by simp [go_sem]
            have bq2 : (wb.alloc (.cells #[.int .i64 0, .int .i64 0, .slice none 0 0, .slice none 0 0] 41)).frozen? ⟨wb.heap.size, 2, none⟩ = false := by simp [go_sem]
            have bp3 : (wb.alloc (.cells #[.int .i64 0, .int .i64 0, .slice none 0 0, .slice none 0 0] 41)).cell? ⟨wb.heap.size, 3, none⟩ = some (.slice none 0 0) := by simp [go_sem]
            have bq3 : (wb.alloc (.cells #[.int .i64 0, .int .i64 0, .slice none 0 0, .slice none 0 0] 41)).frozen? ⟨wb.heap.size, 3, none⟩ = false := by simp [go_sem]
            have o1 := owns_below o1 bal
            have o2 := owns_below o2 bal
            generalize wb.alloc (.cells #[.int .i64 0, .int .i64 0, .slice none 0 0, .slice none 0 0] 41) = wbA at *
            refine wpAnyH_ready (rs := [4]) (by kernel_rfl) (by simp) ?_
            refine AllReadyH.cons rfl (fun K hK => ?_) AllReadyH.nil
            go_simp
            refine (SI _ ⟨g1, 0, none⟩ ⟨g2, 0, none⟩ (owns_bytes o1) (owns_bytes o2)).mono ?_
            rintro e wc1 ⟨a2, k2, c2, e2, j2, f2, rfl, hk, hj, t1, t2, bwc1⟩
            have zwc1 := bwc1.size
            have Bwc1 := BwbA.trans (bwc1.mono BwbA.size)
            have o1 := owns_below o1 bwc1
            have o2 := owns_below o2 bwc1
            have lPwc1 := lt_of_cell bp0
            have bq0 := ((bcell bwc1).2 _ _ lPwc1).trans bq0
            have bp0 := keep_cell bwc1 bp0
            have bq1 := ((bcell bwc1).2 _ _ lPwc1).trans bq1
            have bp1 := keep_cell bwc1 bp1
            have bq2 := ((bcell bwc1).2 _ _ lPwc1).trans bq2
            have bp2 := keep_cell bwc1 bp2
            have bq3 := ((bcell bwc1).2 _ _ lPwc1).trans bq3
            have bp3 := keep_cell bwc1 bp3
            have Lt1 := owns_lt t1
            have Lt2 := owns_lt t2
            go_wp2_with fail
            refine hK.out _ _ ?_ (fun hH => ?_)
            · exact HS.out _ Bwc1
            clear hK K
            refine wpAnyH_ready (rs := [6]) (by kernel_rfl) (by simp) ?_
            refine AllReadyH.cons rfl (fun K hK => ?_) AllReadyH.nil
            go_simp
            refine hK.out _ _ ?_ (fun hH => ?_)
            · exact HS.out _ ((((Bwc1.setCell (p := ⟨wb.heap.size, 0, none⟩) hPA _).setCell (p := ⟨wb.heap.size, 1, none⟩) hPA _).setCell (p := ⟨wb.heap.size, 2, none⟩) hPA _).setCell (p := ⟨wb.heap.size, 3, none⟩) hPA _)
            clear hK K
            refine wpAnyH_done (by kernel_rfl) ?_ _
            refine NoPanic.normal ?_
            go_wp2_with fail
            go_meet
            exact ⟨wb.heap.size, _, _, _, _, _, _, rfl, ⟨hPA, by have := lt_of_cell bp0; simp; omega, by simp [go_sem, bp0, bp1, bp2, bp3], by simp [go_sem, bp0, bp1, bp2, bp3], by simp [go_sem, bp0, bp1, bp2, bp3], by simp [go_sem, bp0, bp1, bp2, bp3], by omega, by omega, owns_base (owns_cell (owns_cell (owns_cell (owns_cell t1 (p := wb.heap.size) (o := 0) (fun g hg => by have := Lt1 g hg; omega) _) (p := wb.heap.size) (o := 1) (fun g hg => by have := Lt1 g hg; omega) _) (p := wb.heap.size) (o := 2) (fun g hg => by have := Lt1 g hg; omega) _) (p := wb.heap.size) (o := 3) (fun g hg => by have := Lt1 g hg; omega) _) (by omega), owns_base (owns_cell (owns_cell (owns_cell (owns_cell t2 (p := wb.heap.size) (o := 0) (fun g hg => by have := Lt2 g hg; omega) _) (p := wb.heap.size) (o := 1) (fun g hg => by have := Lt2 g hg; omega) _) (p := wb.heap.size) (o := 2) (fun g hg => by have := Lt2 g hg; omega) _) (p := wb.heap.size) (o := 3) (fun g hg => by have := Lt2 g hg; omega) _) (by omega), fun g hg => by have := Lt1 g hg; omega, fun g hg => by have := Lt2 g hg; omega, ((((Bwc1.setCell (p := ⟨wb.heap.size, 0, none⟩) hPA _).setCell (p := ⟨wb.heap.size, 1, none⟩) hPA _).setCell (p := ⟨wb.heap.size, 2, none⟩) hPA _).setCell (p := ⟨wb.heap.size, 3, none⟩) hPA _)⟩⟩
        focus
          go_simp
          refine hK.out _ _ ?_ (fun hH => ?_)
          · exact HS.out _ (Bwa.alloc Bwa.size _)
          clear hK K
          have bal : Below wa.heap.size wa (wa.alloc (.cells #[.int .i64 0, .int .i64 0, .slice none 0 0, .slice none 0 0] 41)) := (Below.refl _ _).alloc (Nat.le_refl _) _
          have hPA := Bwa.size
          have BwaA := Bwa.alloc Bwa.size (.cells #[.int .i64 0, .int .i64 0, .slice none 0 0, .slice none 0 0] 41)
          have bp0 : (wa.alloc (.cells #[.int .i64 0, .int .i64 0, .slice none 0 0, .slice none 0 0] 41)).cell? ⟨wa.heap.size, 0, none⟩ = some (.int .i64 0) := by simp [go_sem]
          have bq0 : (wa.alloc (.cells #[.int .i64 0, .int .i64 0, .slice none 0 0, .slice none 0 0] 41)).frozen? ⟨wa.heap.size, 0, none⟩ = false := by simp [go_sem]
          have bp1 : (wa.alloc (.cells #[.int .i64 0, .int .i64 0, .slice none 0 0, .slice none 0 0] 41)).cell? ⟨wa.heap.size, 1, none⟩ = some (.int .i64 0) := by simp [go_sem]
          have bq1 : (wa.alloc (.cells #[.int .i64 0, .int .i64 0, .slice none 0 0, .slice none 0 0] 41)).frozen? ⟨wa.heap.size, 1, none⟩ = false := by simp [go_sem]
          have bp2 : (wa.alloc (.cells #[.int .i64 0, .int .i64 0, .slice none 0 0, .slice none 0 0] 41)).cell? ⟨wa.heap.size, 2, none⟩ = some (.slice none 0 0) := by simp [go_sem]
          have bq2 : (wa.alloc (.cells #[.int .i64 0, .int .i64 0, .slice none 0 0, .slice none 0 0] 41)).frozen? ⟨wa.heap.size, 2, none⟩ = false := by simp [go_sem]
          have bp3 : (wa.alloc (.cells #[.int .i64 0, .int .i64 0, .slice none 0 0, .slice none 0 0] 41)).cell? ⟨wa.heap.size, 3, none⟩ = some (.slice none 0 0) := by simp [go_sem]
          have bq3 : (wa.alloc (.cells #[.int .i64 0, .int .i64 0, .slice none 0 0, .slice none 0 0] 41)).frozen? ⟨wa.heap.size, 3, none⟩ = false := by simp [go_sem]
          have o1 := owns_below o1 bal
          have o2 := owns_below o2 bal
          generalize wa.alloc (.cells #[.int .i64 0, .int .i64 0, .slice none 0 0, .slice none 0 0] 41) = waA at *
          refine wpAnyH_ready (rs := [3]) (by kernel_rfl) (by simp) ?_
          refine AllReadyH.cons rfl (fun K hK => ?_) AllReadyH.nil
          go_simp
          refine (toRec_any kd tx ky hd ol hs nw _).mono ?_
          rintro e wb ⟨rfl, bwb⟩
          have zwb := bwb.size
          have Bwb := BwaA.trans (bwb.mono BwaA.size)
          have o1 := owns_below o1 bwb
          have o2 := owns_below o2 bwb
          have lPwb := lt_of_cell bp0
          have bq0 := ((bcell bwb).2 _ _ lPwb).trans bq0
          have bp0 := keep_cell bwb bp0
          have bq1 := ((bcell bwb).2 _ _ lPwb).trans bq1
          have bp1 := keep_cell bwb bp1
          have bq2 := ((bcell bwb).2 _ _ lPwb).trans bq2
          have bp2 := keep_cell bwb bp2
          have bq3 := ((bcell bwb).2 _ _ lPwb).trans bq3
          have bp3 := keep_cell bwb bp3
          go_wp2_with fail
          refine hK.out _ _ ?_ (fun hH => ?_)
          · exact HS.out _ Bwb
          clear hK K
          refine wpAnyH_ready (rs := [4]) (by kernel_rfl) (by simp) ?_
          refine AllReadyH.cons rfl (fun K hK => ?_) AllReadyH.nil
          go_simp
          refine (SI _ ⟨g1, 0, none⟩ ⟨g2, 0, none⟩ (owns_bytes o1) (owns_bytes o2)).mono ?_
          rintro e wc1 ⟨a2, k2, c2, e2, j2, f2, rfl, hk, hj, t1, t2, bwc1⟩
          have zwc1 := bwc1.size
          have Bwc1 := Bwb.trans (bwc1.mono Bwb.size)
          have o1 := owns_below o1 bwc1
          have o2 := owns_below o2 bwc1
          have lPwc1 := lt_of_cell bp0
          have bq0 := ((bcell bwc1).2 _ _ lPwc1).trans bq0
          have bp0 := keep_cell bwc1 bp0
          have bq1 := ((bcell bwc1).2 _ _ lPwc1).trans bq1
          have bp1 := keep_cell bwc1 bp1
          have bq2 := ((bcell bwc1).2 _ _ lPwc1).trans bq2
          have bp2 := keep_cell bwc1 bp2
          have bq3 := ((bcell bwc1).2 _ _ lPwc1).trans bq3
          have bp3 := keep_cell bwc1 bp3
          have Lt1 := owns_lt t1
          have Lt2 := owns_lt t2
          go_wp2_with fail
          refine hK.out _ _ ?_ (fun hH => ?_)
          · exact HS.out _ Bwc1
          clear hK K
          refine wpAnyH_ready (rs := [6]) (by kernel_rfl) (by simp) ?_
          refine AllReadyH.cons rfl (fun K hK => ?_) AllReadyH.nil
          go_simp
          refine hK.out _ _ ?_ (fun hH => ?_)
          · exact HS.out _ ((((Bwc1.setCell (p := ⟨wa.heap.size, 0, none⟩) hPA _).setCell (p := ⟨wa.heap.size, 1, none⟩) hPA _).setCell (p := ⟨wa.heap.size, 2, none⟩) hPA _).setCell (p := ⟨wa.heap.size, 3, none⟩) hPA _)
          clear hK K
          refine wpAnyH_done (by kernel_rfl) ?_ _
          refine NoPanic.normal ?_
          go_wp2_with fail
          go_meet
          exact ⟨wa.heap.size, _, _, _, _, _, _, rfl, ⟨hPA, by have := lt_of_cell bp0; simp; omega, by simp [go_sem, bp0, bp1, bp2, bp3], by simp [go_sem, bp0, bp1, bp2, bp3], by simp [go_sem, bp0, bp1, bp2, bp3], by simp [go_sem, bp0, bp1, bp2, bp3], by omega, by omega, owns_base (owns_cell (owns_cell (owns_cell (owns_cell t1 (p := wa.heap.size) (o := 0) (fun g hg => by have := Lt1 g hg; omega) _) (p := wa.heap.size) (o := 1) (fun g hg => by have := Lt1 g hg; omega) _) (p := wa.heap.size) (o := 2) (fun g hg => by have := Lt1 g hg; omega) _) (p := wa.heap.size) (o := 3) (fun g hg => by have := Lt1 g hg; omega) _) (by omega), owns_base (owns_cell (owns_cell (owns_cell (owns_cell t2 (p := wa.heap.size) (o := 0) (fun g hg => by have := Lt2 g hg; omega) _) (p := wa.heap.size) (o := 1) (fun g hg => by have := Lt2 g hg; omega) _) (p := wa.heap.size) (o := 2) (fun g hg => by have := Lt2 g hg; omega) _) (p := wa.heap.size) (o := 3) (fun g hg => by have := Lt2 g hg; omega) _) (by omega), fun g hg => by have := Lt1 g hg; omega, fun g hg => by have := Lt2 g hg; omega, ((((Bwc1.setCell (p := ⟨wa.heap.size, 0, none⟩) hPA _).setCell (p := ⟨wa.heap.size, 1, none⟩) hPA _).setCell (p := ⟨wa.heap.size, 2, none⟩) hPA _).setCell (p := ⟨wa.heap.size, 3, none⟩) hPA _)⟩⟩
      focus
        go_simp
        refine hK.out _ _ ?_ (fun hH => ?_)
        · exact HS.out _ (bd.alloc bd.size _)
        clear hK K
        have bal : Below w0d.heap.size w0d (w0d.alloc (.cells #[.int .i64 0, .int .i64 0, .slice none 0 0, .slice none 0 0] 41)) := (Below.refl _ _).alloc (Nat.le_refl _) _
        have hPA := bd.size
        have Bw0dA := bd.alloc bd.size (.cells #[.int .i64 0, .int .i64 0, .slice none 0 0, .slice none 0 0] 41)
        have bp0 : (w0d.alloc (.cells #[.int .i64 0, .int .i64 0, .slice none 0 0, .slice none 0 0] 41)).cell? ⟨w0d.heap.size, 0, none⟩ = some (.int .i64 0) := by simp [go_sem]
        have bq0 : (w0d.alloc (.cells #[.int .i64 0, .int .i64 0, .slice none 0 0, .slice none 0 0] 41)).frozen? ⟨w0d.heap.size, 0, none⟩ = false := by simp [go_sem]
        have bp1 : (w0d.alloc (.cells #[.int .i64 0, .int .i64 0, .slice none 0 0, .slice none 0 0] 41)).cell? ⟨w0d.heap.size, 1, none⟩ = some (.int .i64 0) := by simp [go_sem]
        have bq1 : (w0d.alloc (.cells #[.int .i64 0, .int .i64 0, .slice none 0 0, .slice none 0 0] 41)).frozen? ⟨w0d.heap.size, 1, none⟩ = false := by simp [go_sem]
        have bp2 : (w0d.alloc (.cells #[.int .i64 0, .int .i64 0, .slice none 0 0, .slice none 0 0] 41)).cell? ⟨w0d.heap.size, 2, none⟩ = some (.slice none 0 0) := by simp [go_sem]
        have bq2 : (w0d.alloc (.cells #[.int .i64 0, .int .i64 0, .slice none 0 0, .slice none 0 0] 41)).frozen? ⟨w0d.heap.size, 2, none⟩ = false := by simp [go_sem]
        have bp3 : (w0d.alloc (.cells #[.int .i64 0, .int .i64 0, .slice none 0 0, .slice none 0 0] 41)).cell? ⟨w0d.heap.size, 3, none⟩ = some (.slice none 0 0) := by simp [go_sem]
        have bq3 : (w0d.alloc (.cells #[.int .i64 0, .int .i64 0, .slice none 0 0, .slice none 0 0] 41)).frozen? ⟨w0d.heap.size, 3, none⟩ = false := by simp [go_sem]
        generalize w0d.alloc (.cells #[.int .i64 0, .int .i64 0, .slice none 0 0, .slice none 0 0] 41) = w0dA at *
        refine wpAnyH_ready (rs := [1]) (by kernel_rfl) (by simp) ?_
        refine AllReadyH.cons rfl (fun K hK => ?_) AllReadyH.nil
        go_simp
        refine (toWal_any a a' n m cap cap' ss ls _ (h.below (BASE.out _ Bw0dA)) (h'.below (BASE.out _ Bw0dA)) hn' hm').mono ?_
        rintro e wa ⟨g1, g2, rfl, o1, o2, hg, bwa⟩
        have zwa := bwa.size
        have Bwa := Bw0dA.trans (bwa.mono Bw0dA.size)
        have lPwa := lt_of_cell bp0
        have bq0 := ((bcell bwa).2 _ _ lPwa).trans bq0
        have bp0 := keep_cell bwa bp0
        have bq1 := ((bcell bwa).2 _ _ lPwa).trans bq1
        have bp1 := keep_cell bwa bp1
        have bq2 := ((bcell bwa).2 _ _ lPwa).trans bq2
        have bp2 := keep_cell bwa bp2
        have bq3 := ((bcell bwa).2 _ _ lPwa).trans bq3
        have bp3 := keep_cell bwa bp3
        have Lo1 := owns_lt o1
        have Lo2 := owns_lt o2
        go_wp2_with fail
        refine hK.out _ _ ?_ (fun hH => ?_)
        · exact HS.out _ Bwa
        clear hK K
        refine wpAnyH_ready (rs := [3]) (by kernel_rfl) (by simp) ?_
        refine AllReadyH.cons rfl (fun K hK => ?_) AllReadyH.nil
        go_simp
        refine (toRec_any kd tx ky hd ol hs nw _).mono ?_
        rintro e wb ⟨rfl, bwb⟩
        have zwb := bwb.size
        have Bwb := Bwa.trans (bwb.mono Bwa.size)
        have o1 := owns_below o1 bwb
        have o2 := owns_below o2 bwb
        have lPwb := lt_of_cell bp0
        have bq0 := ((bcell bwb).2 _ _ lPwb).trans bq0
        have bp0 := keep_cell bwb bp0
        have bq1 := ((bcell bwb).2 _ _ lPwb).trans bq1
        have bp1 := keep_cell bwb bp1
        have bq2 := ((bcell bwb).2 _ _ lPwb).trans bq2
        have bp2 := keep_cell bwb bp2
        have bq3 := ((bcell bwb).2 _ _ lPwb).trans bq3
        have bp3 := keep_cell bwb bp3
        go_wp2_with fail
        refine hK.out _ _ ?_ (fun hH => ?_)
        · exact HS.out _ Bwb
        clear hK K
        refine wpAnyH_ready (rs := [4]) (by kernel_rfl) (by simp) ?_
        refine AllReadyH.cons rfl (fun K hK => ?_) AllReadyH.nil
        go_simp
        refine (SI _ ⟨g1, 0, none⟩ ⟨g2, 0, none⟩ (owns_bytes o1) (owns_bytes o2)).mono ?_
        rintro e wc1 ⟨a2, k2, c2, e2, j2, f2, rfl, hk, hj, t1, t2, bwc1⟩
        have zwc1 := bwc1.size
        have Bwc1 := Bwb.trans (bwc1.mono Bwb.size)
        have o1 := owns_below o1 bwc1
        have o2 := owns_below o2 bwc1
        have lPwc1 := lt_of_cell bp0
        have bq0 := ((bcell bwc1).2 _ _ lPwc1).trans bq0
        have bp0 := keep_cell bwc1 bp0
        have bq1 := ((bcell bwc1).2 _ _ lPwc1).trans bq1
        have bp1 := keep_cell bwc1 bp1
        have bq2 := ((bcell bwc1).2 _ _ lPwc1).trans bq2
        have bp2 := keep_cell bwc1 bp2
        have bq3 := ((bcell bwc1).2 _ _ lPwc1).trans bq3
        have bp3 := keep_cell bwc1 bp3
        have Lt1 := owns_lt t1
        have Lt2 := owns_lt t2
        go_wp2_with fail
        refine hK.out _ _ ?_ (fun hH => ?_)
        · exact HS.out _ Bwc1
        clear hK K
        refine wpAnyH_ready (rs := [6]) (by kernel_rfl) (by simp) ?_
        refine AllReadyH.cons rfl (fun K hK => ?_) AllReadyH.nil
        go_simp
        refine hK.out _ _ ?_ (fun hH => ?_)
        · exact HS.out _ ((((Bwc1.setCell (p := ⟨w0d.heap.size, 0, none⟩) hPA _).setCell (p := ⟨w0d.heap.size, 1, none⟩) hPA _).setCell (p := ⟨w0d.heap.size, 2, none⟩) hPA _).setCell (p := ⟨w0d.heap.size, 3, none⟩) hPA _)
        clear hK K
        refine wpAnyH_done (by kernel_rfl) ?_ _
        refine NoPanic.normal ?_
        go_wp2_with fail
        go_meet
        exact ⟨w0d.heap.size, _, _, _, _, _, _, rfl, ⟨hPA, by have := lt_of_cell bp0; simp; omega, by simp [go_sem, bp0, bp1, bp2, bp3], by simp [go_sem, bp0, bp1, bp2, bp3], by simp [go_sem, bp0, bp1, bp2, bp3], by simp [go_sem, bp0, bp1, bp2, bp3], by omega, by omega, owns_base (owns_cell (owns_cell (owns_cell (owns_cell t1 (p := w0d.heap.size) (o := 0) (fun g hg => by have := Lt1 g hg; omega) _) (p := w0d.heap.size) (o := 1) (fun g hg => by have := Lt1 g hg; omega) _) (p := w0d.heap.size) (o := 2) (fun g hg => by have := Lt1 g hg; omega) _) (p := w0d.heap.size) (o := 3) (fun g hg => by have := Lt1 g hg; omega) _) (by omega), owns_base (owns_cell (owns_cell (owns_cell (owns_cell t2 (p := w0d.heap.size) (o := 0) (fun g hg => by have := Lt2 g hg; omega) _) (p := w0d.heap.size) (o := 1) (fun g hg => by have := Lt2 g hg; omega) _) (p := w0d.heap.size) (o := 2) (fun g hg => by have := Lt2 g hg; omega) _) (p := w0d.heap.size) (o := 3) (fun g hg => by have := Lt2 g hg; omega) _) (by omega), fun g hg => by have := Lt1 g hg; omega, fun g hg => by have := Lt2 g hg; omega, ((((Bwc1.setCell (p := ⟨w0d.heap.size, 0, none⟩) hPA _).setCell (p := ⟨w0d.heap.size, 1, none⟩) hPA _).setCell (p := ⟨w0d.heap.size, 2, none⟩) hPA _).setCell (p := ⟨w0d.heap.size, 3, none⟩) hPA _)⟩⟩
    case rest =>
      obtain ⟨w2, hwn⟩ : ∃ x : World, x = wc := ⟨_, rfl⟩
      subst hwn
      obtain ⟨P6, sa, sk, sc, va, vk, vc, rfl, ⟨hP60, hP61, s0, s1, s2, s3, hsk, hvk, s, v, ns, nv, b2⟩⟩ := hcut
      have u0 := keep_cell b2 u0
      have u1 := keep_cell b2 u1
      have r0 := keep_cell b2 r0
      have r1 := keep_cell b2 r1
      have r2 := keep_cell b2 r2
      have r3 := keep_cell b2 r3
      have r4 := keep_cell b2 r4
      have r5 := keep_cell b2 r5
      have r6 := keep_cell b2 r6
      have Ls := owns_lt s
      have Lv := owns_lt v
      have z2 := b2.size
      have b2A := b0.trans (b2.mono b0.size)
      clear b2
      go_wp2_with fail
      refine (toWal_any a a' n m cap cap' ss ls _ (h.below b2A) (h'.below b2A) hn' hm').mono ?_
      rintro e w3 ⟨g3, g4, rfl, p3, p4, hg, b3⟩
      have Lp3 := owns_bounds p3
      have Lp4 := owns_bounds p4
      have u0 := keep_cell b3 u0
      have u1 := keep_cell b3 u1
      have r0 := keep_cell b3 r0
      have r1 := keep_cell b3 r1
      have r2 := keep_cell b3 r2
      have r3 := keep_cell b3 r3
      have r4 := keep_cell b3 r4
      have r5 := keep_cell b3 r5
      have r6 := keep_cell b3 r6
      have s0 := keep_cell b3 s0
      have s1 := keep_cell b3 s1
      have s2 := keep_cell b3 s2
      have s3 := keep_cell b3 s3
      have s := owns_below s b3
      have v := owns_below v b3
      have b3A := b2A.trans (b3.mono b2A.size)
      have z3 := b3.size
      clear b3 b2A
      go_upto_region 7 with fail
      have bal : Below w3.heap.size w3 (w3.alloc (.cells #[.slice (some ⟨g3, 0, none⟩) n n, .slice (some ⟨g4, 0, none⟩) m m] 37)) := (Below.refl _ _).alloc (Nat.le_refl _) _
      have x0 : (w3.alloc (.cells #[.slice (some ⟨g3, 0, none⟩) n n, .slice (some ⟨g4, 0, none⟩) m m] 37)).cell? ⟨w3.heap.size, 0, none⟩ = some (.slice (some ⟨g3, 0, none⟩) n n) := by simp [go_sem]
      have x1 : (w3.alloc (.cells #[.slice (some ⟨g3, 0, none⟩) n n, .slice (some ⟨g4, 0, none⟩) m m] 37)).cell? ⟨w3.heap.size, 1, none⟩ = some (.slice (some ⟨g4, 0, none⟩) m m) := by simp [go_sem]
      have u0 := keep_cell bal u0
      have u1 := keep_cell bal u1
      have r0 := keep_cell bal r0
      have r1 := keep_cell bal r1
      have r2 := keep_cell bal r2
      have r3 := keep_cell bal r3
      have r4 := keep_cell bal r4
      have r5 := keep_cell bal r5
      have r6 := keep_cell bal r6
      have s0 := keep_cell bal s0
      have s1 := keep_cell bal s1
      have s2 := keep_cell bal s2
      have s3 := keep_cell bal s3
      have s := owns_below s bal
      have v := owns_below v bal
      have p3 := owns_below p3 bal
      have p4 := owns_below p4 bal
      have b3a := b3A.trans (bal.mono b3A.size)
      have z3a := bal.size
      clear b3A bal
      generalize w3.alloc (.cells #[.slice (some ⟨g3, 0, none⟩) n n, .slice (some ⟨g4, 0, none⟩) m m] 37) = w3a at *
      have zx := lt_of_cell x0
      generalize hQ : w3.heap.size = Q at *
      go_cut [8] (fun s wx => ∃ P a2 k2 c2 e2 j2 f2, s = .pointer (some ⟨P, 0, none⟩) ∧ ResAt wx w3a P fc fn a2 k2 c2 e2 j2 f2 fs fl ∧ ∀ g, (Value.slice a2 k2 c2).ownBlock = some g → (Value.slice e2 j2 f2).ownBlock ≠ some g)
      case first =>
        have BASE : Hid (∀ W, Below w3a.heap.size w3a W → Below w.heap.size w W) := fun W hW => b3a.trans (hW.mono b3a.size)
        have HS : Hid (∀ W', Below w3a.heap.size w3a W' → W'.cell? ⟨Q, 0, none⟩ = some (.slice (some ⟨g3, 0, none⟩) n n) ∧ W'.cell? ⟨Q, 1, none⟩ = some (.slice (some ⟨g4, 0, none⟩) m m) ∧ W'.cell? ⟨w.heap.size + 1, 0, none⟩ = some (.int .i64 kd) ∧ W'.cell? ⟨w.heap.size + 1, 1, none⟩ = some (.int .i64 tx) ∧ W'.cell? ⟨w.heap.size + 1, 2, none⟩ = some (.int .i64 ky) ∧ W'.cell? ⟨w.heap.size + 1, 3, none⟩ = some (.bool hd) ∧ W'.cell? ⟨w.heap.size + 1, 4, none⟩ = some (.int .i64 ol) ∧ W'.cell? ⟨w.heap.size + 1, 5, none⟩ = some (.bool hs) ∧ W'.cell? ⟨w.heap.size + 1, 6, none⟩ = some (.int .i64 nw)) := fun W' hW => ⟨keep_cell hW x0, keep_cell hW x1, keep_cell hW r0, keep_cell hW r1, keep_cell hW r2, keep_cell hW r3, keep_cell hW r4, keep_cell hW r5, keep_cell hW r6⟩
        refine wp_region_noPanic ?_
        refine wp_region_held_drew (S := fun W' => W'.cell? ⟨Q, 0, none⟩ = some (.slice (some ⟨g3, 0, none⟩) n n) ∧ W'.cell? ⟨Q, 1, none⟩ = some (.slice (some ⟨g4, 0, none⟩) m m) ∧ W'.cell? ⟨w.heap.size + 1, 0, none⟩ = some (.int .i64 kd) ∧ W'.cell? ⟨w.heap.size + 1, 1, none⟩ = some (.int .i64 tx) ∧ W'.cell? ⟨w.heap.size + 1, 2, none⟩ = some (.int .i64 ky) ∧ W'.cell? ⟨w.heap.size + 1, 3, none⟩ = some (.bool hd) ∧ W'.cell? ⟨w.heap.size + 1, 4, none⟩ = some (.int .i64 ol) ∧ W'.cell? ⟨w.heap.size + 1, 5, none⟩ = some (.bool hs) ∧ W'.cell? ⟨w.heap.size + 1, 6, none⟩ = some (.int .i64 nw)) (by kernel_rfl) (HS.out _ (Below.refl _ _).drew) (fun hH => ?_)
        refine hTake (i := 0) (v := ?_) rfl (by kernel_rfl) (by kernel_rfl) (by kernel_rfl) (by rfl) ?_ hH ?_
        rotate_left
        · intro W hW; (try dsimp only at hW); go_simp <;> with_reducible rfl
        simp only [Act.put, List.setIfInBounds_toArray, List.set_cons_zero, List.set_cons_succ]
        refine hTake (i := 1) (v := ?_) rfl (by kernel_rfl) (by kernel_rfl) (by kernel_rfl) (by rfl) ?_ hH ?_
        rotate_left
        · intro W hW; (try dsimp only at hW); go_simp <;> with_reducible rfl
        simp only [Act.put, List.setIfInBounds_toArray, List.set_cons_zero, List.set_cons_succ]
        have bd : Below w3a.heap.size w3a w3a.drew := (Below.refl _ _).drew
        have zd := bd.size
        have p3 := owns_below p3 bd
        have p4 := owns_below p4 bd
        generalize w3a.drew = w3ad at *
        refine wpAnyH_ready (rs := [2, 4]) (by kernel_rfl) (by simp) ?_
        refine AllReadyH.cons rfl (fun K hK => ?_) (AllReadyH.cons rfl (fun K hK => ?_) AllReadyH.nil)
        focus
          go_simp
          refine (toRec_any kd tx ky hd ol hs nw _).mono ?_
          rintro e wb ⟨rfl, bwb⟩
          have zwb := bwb.size
          have Bwb := bd.trans (bwb.mono bd.size)
          have p3 := owns_below p3 bwb
          have p4 := owns_below p4 bwb
          go_wp2_with fail
          refine hK.out _ _ ?_ (fun hH => ?_)
          · exact HS.out _ Bwb
          clear hK K
          refine wpAnyH_ready (rs := [3, 4]) (by kernel_rfl) (by simp) ?_
          refine AllReadyH.cons rfl (fun K hK => ?_) (AllReadyH.cons rfl (fun K hK => ?_) AllReadyH.nil)
          focus
            go_simp
            refine (II _ ⟨g3, 0, none⟩ ⟨g4, 0, none⟩ (owns_bytes p3) (owns_bytes p4)).mono ?_
            rintro e wc1 ⟨a2, k2, c2, e2, j2, f2, rfl, hk, hj, t1, t2, hdis, bwc1⟩
            have zwc1 := bwc1.size
            have Bwc1 := Bwb.trans (bwc1.mono Bwb.size)
            have p3 := owns_below p3 bwc1
            have p4 := owns_below p4 bwc1
            have Lt1 := owns_lt t1
            have Lt2 := owns_lt t2
            go_wp2_with fail
            refine hK.out _ _ ?_ (fun hH => ?_)
            · exact HS.out _ Bwc1
            clear hK K
            refine wpAnyH_ready (rs := [4]) (by kernel_rfl) (by simp) ?_
            refine AllReadyH.cons rfl (fun K hK => ?_) AllReadyH.nil
            go_simp
            refine hK.out _ _ ?_ (fun hH => ?_)
            · exact HS.out _ (Bwc1.alloc Bwc1.size _)
            clear hK K
            have bal : Below wc1.heap.size wc1 (wc1.alloc (.cells #[.int .i64 0, .int .i64 0, .slice none 0 0, .slice none 0 0] 41)) := (Below.refl _ _).alloc (Nat.le_refl _) _
            have hPA := Bwc1.size
            have Bwc1A := Bwc1.alloc Bwc1.size (.cells #[.int .i64 0, .int .i64 0, .slice none 0 0, .slice none 0 0] 41)
            have bp0 : (wc1.alloc (.cells #[.int .i64 0, .int .i64 0, .slice none 0 0, .slice none 0 0] 41)).cell? ⟨wc1.heap.size, 0, none⟩ = some (.int .i64 0) := by simp [go_sem]
            have bq0 : (wc1.alloc (.cells #[.int .i64 0, .int .i64 0, .slice none 0 0, .slice none 0 0] 41)).frozen? ⟨wc1.heap.size, 0, none⟩ = false := by simp [go_sem]
            have bp1 : (wc1.alloc (.cells #[.int .i64 0, .int .i64 0, .slice none 0 0, .slice none 0 0] 41)).cell? ⟨wc1.heap.size, 1, none⟩ = some (.int .i64 0) := by simp [go_sem]
            have bq1 : (wc1.alloc (.cells #[.int .i64 0, .int .i64 0, .slice none 0 0, .slice none 0 0] 41)).frozen? ⟨wc1.heap.size, 1, none⟩ = false := by simp [go_sem]
            have bp2 : (wc1.alloc (.cells #[.int .i64 0, .int .i64 0, .slice none 0 0, .slice none 0 0] 41)).cell? ⟨wc1.heap.size, 2, none⟩ = some (.slice none 0 0) := by simp [go_sem]
            have bq2 : (wc1.alloc (.cells #[.int .i64 0, .int .i64 0, .slice none 0 0, .slice none 0 0] 41)).frozen? ⟨wc1.heap.size, 2, none⟩ = false := by simp [go_sem]
            have bp3 : (wc1.alloc (.cells #[.int .i64 0, .int .i64 0, .slice none 0 0, .slice none 0 0] 41)).cell? ⟨wc1.heap.size, 3, none⟩ = some (.slice none 0 0) := by simp [go_sem]
            have bq3 : (wc1.alloc (.cells #[.int .i64 0, .int .i64 0, .slice none 0 0, .slice none 0 0] 41)).frozen? ⟨wc1.heap.size, 3, none⟩ = false := by simp [go_sem]
            have p3 := owns_below p3 bal
            have p4 := owns_below p4 bal
            have t1 := owns_below t1 bal
            have t2 := owns_below t2 bal
            generalize wc1.alloc (.cells #[.int .i64 0, .int .i64 0, .slice none 0 0, .slice none 0 0] 41) = wc1A at *
            refine wpAnyH_ready (rs := [5]) (by kernel_rfl) (by simp) ?_
            refine AllReadyH.cons rfl (fun K hK => ?_) AllReadyH.nil
            go_simp
            refine hK.out _ _ ?_ (fun hH => ?_)
            · exact HS.out _ ((((Bwc1A.setCell (p := ⟨wc1.heap.size, 0, none⟩) hPA _).setCell (p := ⟨wc1.heap.size, 1, none⟩) hPA _).setCell (p := ⟨wc1.heap.size, 2, none⟩) hPA _).setCell (p := ⟨wc1.heap.size, 3, none⟩) hPA _)
            clear hK K
            refine wpAnyH_done (by kernel_rfl) ?_ _
            refine NoPanic.normal ?_
            go_wp2_with fail
            go_meet
            exact ⟨wc1.heap.size, _, _, _, _, _, _, rfl, ⟨hPA, by have := lt_of_cell bp0; simp; omega, by simp [go_sem, bp0, bp1, bp2, bp3], by simp [go_sem, bp0, bp1, bp2, bp3], by simp [go_sem, bp0, bp1, bp2, bp3], by simp [go_sem, bp0, bp1, bp2, bp3], by omega, by omega, owns_base (owns_cell (owns_cell (owns_cell (owns_cell t1 (p := wc1.heap.size) (o := 0) (fun g hg => by have := Lt1 g hg; omega) _) (p := wc1.heap.size) (o := 1) (fun g hg => by have := Lt1 g hg; omega) _) (p := wc1.heap.size) (o := 2) (fun g hg => by have := Lt1 g hg; omega) _) (p := wc1.heap.size) (o := 3) (fun g hg => by have := Lt1 g hg; omega) _) (by omega), owns_base (owns_cell (owns_cell (owns_cell (owns_cell t2 (p := wc1.heap.size) (o := 0) (fun g hg => by have := Lt2 g hg; omega) _) (p := wc1.heap.size) (o := 1) (fun g hg => by have := Lt2 g hg; omega) _) (p := wc1.heap.size) (o := 2) (fun g hg => by have := Lt2 g hg; omega) _) (p := wc1.heap.size) (o := 3) (fun g hg => by have := Lt2 g hg; omega) _) (by omega), fun g hg => by have := Lt1 g hg; omega, fun g hg => by have := Lt2 g hg; omega, ((((Bwc1A.setCell (p := ⟨wc1.heap.size, 0, none⟩) hPA _).setCell (p := ⟨wc1.heap.size, 1, none⟩) hPA _).setCell (p := ⟨wc1.heap.size, 2, none⟩) hPA _).setCell (p := ⟨wc1.heap.size, 3, none⟩) hPA _)⟩, hdis⟩
          focus
            go_simp
            refine hK.out _ _ ?_ (fun hH => ?_)
            · exact HS.out _ (Bwb.alloc Bwb.size _)
            clear hK K
            have bal : Below wb.heap.size wb (wb.alloc (.cells #[.int .i64 0, .int .i64 0, .slice none 0 0, .slice none 0 0] 41)) := (Below.refl _ _).alloc (Nat.le_refl _) _
            have hPA := Bwb.size
            have BwbA := Bwb.alloc Bwb.size (.cells #[.int .i64 0, .int .i64 0, .slice none 0 0, .slice none 0 0] 41)
            have bp0 : (wb.alloc (.cells #[.int .i64 0, .int .i64 0, .slice none 0 0, .slice none 0 0] 41)).cell? ⟨wb.heap.size, 0, none⟩ = some (.int .i64 0) := by simp [go_sem]
            have bq0 : (wb.alloc (.cells #[.int .i64 0, .int .i64 0, .slice none 0 0, .slice none 0 0] 41)).frozen? ⟨wb.heap.size, 0, none⟩ = false := by simp [go_sem]
            have bp1 : (wb.alloc (.cells #[.int .i64 0, .int .i64 0, .slice none 0 0, .slice none 0 0] 41)).cell? ⟨wb.heap.size, 1, none⟩ = some (.int .i64 0) := by simp [go_sem]
            have bq1 : (wb.alloc (.cells #[.int .i64 0, .int .i64 0, .slice none 0 0, .slice none 0 0] 41)).frozen? ⟨wb.heap.size, 1, none⟩ = false := by simp [go_sem]
            have bp2 : (wb.alloc (.cells #[.int .i64 0, .int .i64 0, .slice none 0 0, .slice none 0 0] 41)).cell? ⟨wb.heap.size, 2, none⟩ = some (.slice none 0 0) := by simp [go_sem]
            have bq2 : (wb.alloc (.cells #[.int .i64 0, .int .i64 0, .slice none 0 0, .slice none 0 0] 41)).frozen? ⟨wb.heap.size, 2, none⟩ = false := by simp [go_sem]
            have bp3 : (wb.alloc (.cells #[.int .i64 0, .int .i64 0, .slice none 0 0, .slice none 0 0] 41)).cell? ⟨wb.heap.size, 3, none⟩ = some (.slice none 0 0) := by simp [go_sem]
            have bq3 : (wb.alloc (.cells #[.int .i64 0, .int .i64 0, .slice none 0 0, .slice none 0 0] 41)).frozen? ⟨wb.heap.size, 3, none⟩ = false := by simp [go_sem]
            have p3 := owns_below p3 bal
            have p4 := owns_below p4 bal
            generalize wb.alloc (.cells #[.int .i64 0, .int .i64 0, .slice none 0 0, .slice none 0 0] 41) = wbA at *
            refine wpAnyH_ready (rs := [3]) (by kernel_rfl) (by simp) ?_
            refine AllReadyH.cons rfl (fun K hK => ?_) AllReadyH.nil
            go_simp
            refine (II _ ⟨g3, 0, none⟩ ⟨g4, 0, none⟩ (owns_bytes p3) (owns_bytes p4)).mono ?_
            rintro e wc1 ⟨a2, k2, c2, e2, j2, f2, rfl, hk, hj, t1, t2, hdis, bwc1⟩
            have zwc1 := bwc1.size
            have Bwc1 := BwbA.trans (bwc1.mono BwbA.size)
            have p3 := owns_below p3 bwc1
            have p4 := owns_below p4 bwc1
            have lPwc1 := lt_of_cell bp0
            have bq0 := ((bcell bwc1).2 _ _ lPwc1).trans bq0
            have bp0 := keep_cell bwc1 bp0
            have bq1 := ((bcell bwc1).2 _ _ lPwc1).trans bq1
            have bp1 := keep_cell bwc1 bp1
            have bq2 := ((bcell bwc1).2 _ _ lPwc1).trans bq2
            have bp2 := keep_cell bwc1 bp2
            have bq3 := ((bcell bwc1).2 _ _ lPwc1).trans bq3
            have bp3 := keep_cell bwc1 bp3
            have Lt1 := owns_lt t1
            have Lt2 := owns_lt t2
            go_wp2_with fail
            refine hK.out _ _ ?_ (fun hH => ?_)
            · exact HS.out _ Bwc1
            clear hK K
            refine wpAnyH_ready (rs := [5]) (by kernel_rfl) (by simp) ?_
            refine AllReadyH.cons rfl (fun K hK => ?_) AllReadyH.nil
            go_simp
            refine hK.out _ _ ?_ (fun hH => ?_)
            · exact HS.out _ ((((Bwc1.setCell (p := ⟨wb.heap.size, 0, none⟩) hPA _).setCell (p := ⟨wb.heap.size, 1, none⟩) hPA _).setCell (p := ⟨wb.heap.size, 2, none⟩) hPA _).setCell (p := ⟨wb.heap.size, 3, none⟩) hPA _)
            clear hK K
            refine wpAnyH_done (by kernel_rfl) ?_ _
            refine NoPanic.normal ?_
            go_wp2_with fail
            go_meet
            exact ⟨wb.heap.size, _, _, _, _, _, _, rfl, ⟨hPA, by have := lt_of_cell bp0; simp; omega, by simp [go_sem, bp0, bp1, bp2, bp3], by simp [go_sem, bp0, bp1, bp2, bp3], by simp [go_sem, bp0, bp1, bp2, bp3], by simp [go_sem, bp0, bp1, bp2, bp3], by omega, by omega, owns_base (owns_cell (owns_cell (owns_cell (owns_cell t1 (p := wb.heap.size) (o := 0) (fun g hg => by have := Lt1 g hg; omega) _) (p := wb.heap.size) (o := 1) (fun g hg => by have := Lt1 g hg; omega) _) (p := wb.heap.size) (o := 2) (fun g hg => by have := Lt1 g hg; omega) _) (p := wb.heap.size) (o := 3) (fun g hg => by have := Lt1 g hg; omega) _) (by omega), owns_base (owns_cell (owns_cell (owns_cell (owns_cell t2 (p := wb.heap.size) (o := 0) (fun g hg => by have := Lt2 g hg; omega) _) (p := wb.heap.size) (o := 1) (fun g hg => by have := Lt2 g hg; omega) _) (p := wb.heap.size) (o := 2) (fun g hg => by have := Lt2 g hg; omega) _) (p := wb.heap.size) (o := 3) (fun g hg => by have := Lt2 g hg; omega) _) (by omega), fun g hg => by have := Lt1 g hg; omega, fun g hg => by have := Lt2 g hg; omega, ((((Bwc1.setCell (p := ⟨wb.heap.size, 0, none⟩) hPA _).setCell (p := ⟨wb.heap.size, 1, none⟩) hPA _).setCell (p := ⟨wb.heap.size, 2, none⟩) hPA _).setCell (p := ⟨wb.heap.size, 3, none⟩) hPA _)⟩, hdis⟩
        focus
          go_simp
          refine hK.out _ _ ?_ (fun hH => ?_)
          · exact HS.out _ (bd.alloc bd.size _)
          clear hK K
          have bal : Below w3ad.heap.size w3ad (w3ad.alloc (.cells #[.int .i64 0, .int .i64 0, .slice none 0 0, .slice none 0 0] 41)) := (Below.refl _ _).alloc (Nat.le_refl _) _
          have hPA := bd.size
          have Bw3adA := bd.alloc bd.size (.cells #[.int .i64 0, .int .i64 0, .slice none 0 0, .slice none 0 0] 41)
          have bp0 : (w3ad.alloc (.cells #[.int .i64 0, .int .i64 0, .slice none 0 0, .slice none 0 0] 41)).cell? ⟨w3ad.heap.size, 0, none⟩ = some (.int .i64 0) := by simp [go_sem]
          have bq0 : (w3ad.alloc (.cells #[.int .i64 0, .int .i64 0, .slice none 0 0, .slice none 0 0] 41)).frozen? ⟨w3ad.heap.size, 0, none⟩ = false := by simp [go_sem]
          have bp1 : (w3ad.alloc (.cells #[.int .i64 0, .int .i64 0, .slice none 0 0, .slice none 0 0] 41)).cell? ⟨w3ad.heap.size, 1, none⟩ = some (.int .i64 0) := by simp [go_sem]
          have bq1 : (w3ad.alloc (.cells #[.int .i64 0, .int .i64 0, .slice none 0 0, .slice none 0 0] 41)).frozen? ⟨w3ad.heap.size, 1, none⟩ = false := by simp [go_sem]
          have bp2 : (w3ad.alloc (.cells #[.int .i64 0, .int .i64 0, .slice none 0 0, .slice none 0 0] 41)).cell? ⟨w3ad.heap.size, 2, none⟩ = some (.slice none 0 0) := by simp [go_sem]
          have bq2 : (w3ad.alloc (.cells #[.int .i64 0, .int .i64 0, .slice none 0 0, .slice none 0 0] 41)).frozen? ⟨w3ad.heap.size, 2, none⟩ = false := by simp [go_sem]
          have bp3 : (w3ad.alloc (.cells #[.int .i64 0, .int .i64 0, .slice none 0 0, .slice none 0 0] 41)).cell? ⟨w3ad.heap.size, 3, none⟩ = some (.slice none 0 0) := by simp [go_sem]
          have bq3 : (w3ad.alloc (.cells #[.int .i64 0, .int .i64 0, .slice none 0 0, .slice none 0 0] 41)).frozen? ⟨w3ad.heap.size, 3, none⟩ = false := by simp [go_sem]
          have p3 := owns_below p3 bal
          have p4 := owns_below p4 bal
          generalize w3ad.alloc (.cells #[.int .i64 0, .int .i64 0, .slice none 0 0, .slice none 0 0] 41) = w3adA at *
          refine wpAnyH_ready (rs := [2]) (by kernel_rfl) (by simp) ?_
          refine AllReadyH.cons rfl (fun K hK => ?_) AllReadyH.nil
          go_simp
          refine (toRec_any kd tx ky hd ol hs nw _).mono ?_
          rintro e wb ⟨rfl, bwb⟩
          have zwb := bwb.size
          have Bwb := Bw3adA.trans (bwb.mono Bw3adA.size)
          have p3 := owns_below p3 bwb
          have p4 := owns_below p4 bwb
          have lPwb := lt_of_cell bp0
          have bq0 := ((bcell bwb).2 _ _ lPwb).trans bq0
          have bp0 := keep_cell bwb bp0
          have bq1 := ((bcell bwb).2 _ _ lPwb).trans bq1
          have bp1 := keep_cell bwb bp1
          have bq2 := ((bcell bwb).2 _ _ lPwb).trans bq2
          have bp2 := keep_cell bwb bp2
          have bq3 := ((bcell bwb).2 _ _ lPwb).trans bq3
          have bp3 := keep_cell bwb bp3
          go_wp2_with fail
          refine hK.out _ _ ?_ (fun hH => ?_)
          · exact HS.out _ Bwb
          clear hK K
          refine wpAnyH_ready (rs := [3]) (by kernel_rfl) (by simp) ?_
          refine AllReadyH.cons rfl (fun K hK => ?_) AllReadyH.nil
          go_simp
          refine (II _ ⟨g3, 0, none⟩ ⟨g4, 0, none⟩ (owns_bytes p3) (owns_bytes p4)).mono ?_
          rintro e wc1 ⟨a2, k2, c2, e2, j2, f2, rfl, hk, hj, t1, t2, hdis, bwc1⟩
          have zwc1 := bwc1.size
          have Bwc1 := Bwb.trans (bwc1.mono Bwb.size)
          have p3 := owns_below p3 bwc1
          have p4 := owns_below p4 bwc1
          have lPwc1 := lt_of_cell bp0
          have bq0 := ((bcell bwc1).2 _ _ lPwc1).trans bq0
          have bp0 := keep_cell bwc1 bp0
          have bq1 := ((bcell bwc1).2 _ _ lPwc1).trans bq1
          have bp1 := keep_cell bwc1 bp1
          have bq2 := ((bcell bwc1).2 _ _ lPwc1).trans bq2
          have bp2 := keep_cell bwc1 bp2
          have bq3 := ((bcell bwc1).2 _ _ lPwc1).trans bq3
          have bp3 := keep_cell bwc1 bp3
          have Lt1 := owns_lt t1
          have Lt2 := owns_lt t2
          go_wp2_with fail
          refine hK.out _ _ ?_ (fun hH => ?_)
          · exact HS.out _ Bwc1
          clear hK K
          refine wpAnyH_ready (rs := [5]) (by kernel_rfl) (by simp) ?_
          refine AllReadyH.cons rfl (fun K hK => ?_) AllReadyH.nil
          go_simp
          refine hK.out _ _ ?_ (fun hH => ?_)
          · exact HS.out _ ((((Bwc1.setCell (p := ⟨w3ad.heap.size, 0, none⟩) hPA _).setCell (p := ⟨w3ad.heap.size, 1, none⟩) hPA _).setCell (p := ⟨w3ad.heap.size, 2, none⟩) hPA _).setCell (p := ⟨w3ad.heap.size, 3, none⟩) hPA _)
          clear hK K
          refine wpAnyH_done (by kernel_rfl) ?_ _
          refine NoPanic.normal ?_
          go_wp2_with fail
          go_meet
          exact ⟨w3ad.heap.size, _, _, _, _, _, _, rfl, ⟨hPA, by have := lt_of_cell bp0; simp; omega, by simp [go_sem, bp0, bp1, bp2, bp3], by simp [go_sem, bp0, bp1, bp2, bp3], by simp [go_sem, bp0, bp1, bp2, bp3], by simp [go_sem, bp0, bp1, bp2, bp3], by omega, by omega, owns_base (owns_cell (owns_cell (owns_cell (owns_cell t1 (p := w3ad.heap.size) (o := 0) (fun g hg => by have := Lt1 g hg; omega) _) (p := w3ad.heap.size) (o := 1) (fun g hg => by have := Lt1 g hg; omega) _) (p := w3ad.heap.size) (o := 2) (fun g hg => by have := Lt1 g hg; omega) _) (p := w3ad.heap.size) (o := 3) (fun g hg => by have := Lt1 g hg; omega) _) (by omega), owns_base (owns_cell (owns_cell (owns_cell (owns_cell t2 (p := w3ad.heap.size) (o := 0) (fun g hg => by have := Lt2 g hg; omega) _) (p := w3ad.heap.size) (o := 1) (fun g hg => by have := Lt2 g hg; omega) _) (p := w3ad.heap.size) (o := 2) (fun g hg => by have := Lt2 g hg; omega) _) (p := w3ad.heap.size) (o := 3) (fun g hg => by have := Lt2 g hg; omega) _) (by omega), fun g hg => by have := Lt1 g hg; omega, fun g hg => by have := Lt2 g hg; omega, ((((Bwc1.setCell (p := ⟨w3ad.heap.size, 0, none⟩) hPA _).setCell (p := ⟨w3ad.heap.size, 1, none⟩) hPA _).setCell (p := ⟨w3ad.heap.size, 2, none⟩) hPA _).setCell (p := ⟨w3ad.heap.size, 3, none⟩) hPA _)⟩, hdis⟩
      case rest =>
        obtain ⟨w4, hwn⟩ : ∃ x : World, x = wc := ⟨_, rfl⟩
        subst hwn
        obtain ⟨P8, oa, ok, oc, qa, qk, qc, rfl, ⟨hP80, hP81, y0, y1, y2, y3, hok, hqk, o, q, no, nq, b4⟩, hdis⟩ := hcut
        have u0 := keep_cell b4 u0
        have u1 := keep_cell b4 u1
        have r0 := keep_cell b4 r0
        have r1 := keep_cell b4 r1
        have r2 := keep_cell b4 r2
        have r3 := keep_cell b4 r3
        have r4 := keep_cell b4 r4
        have r5 := keep_cell b4 r5
        have r6 := keep_cell b4 r6
        have s0 := keep_cell b4 s0
        have s1 := keep_cell b4 s1
        have s2 := keep_cell b4 s2
        have s3 := keep_cell b4 s3
        have x0 := keep_cell b4 x0
        have x1 := keep_cell b4 x1
        have s := owns_below s b4
        have v := owns_below v b4
        have p3 := owns_below p3 b4
        have p4 := owns_below p4 b4
        have Lo := owns_lt o
        have Lq := owns_lt q
        have z4 := b4.size
        have b4A := b3a.trans (b4.mono b3a.size)
        have HM : ok = sk := by have q2 := s.1; have q4 := o.1; omega
        subst HM
        have HN : qk = vk := by have q2 := v.1; have q4 := q.1; omega
        subst HN
        clear b4 b3a
        have hrr : ((1 + ok + qk : Nat) : Int) = ((1 + ok + qk : Nat) : Int) := rfl
        have HT : Hid (∃ t : Nat, t = 1 + ok + qk) := ⟨_, rfl⟩
        go_wp2_with fail
        refine (eqWalResult_same _ _ oa qa sa va ok qk oc qc sc vc fs fl _ (owns_bytes o) (owns_bytes q) (owns_bytes s) (owns_bytes v) (by omega) (by omega)).mono ?_
        rintro e w5 ⟨rfl, b5⟩
        have u0 := keep_cell b5 u0
        have u1 := keep_cell b5 u1
        have r0 := keep_cell b5 r0
        have r1 := keep_cell b5 r1
        have r2 := keep_cell b5 r2
        have r3 := keep_cell b5 r3
        have r4 := keep_cell b5 r4
        have r5 := keep_cell b5 r5
        have r6 := keep_cell b5 r6
        have s0 := keep_cell b5 s0
        have s1 := keep_cell b5 s1
        have s2 := keep_cell b5 s2
        have s3 := keep_cell b5 s3
        have x0 := keep_cell b5 x0
        have x1 := keep_cell b5 x1
        have y0 := keep_cell b5 y0
        have y1 := keep_cell b5 y1
        have y2 := keep_cell b5 y2
        have y3 := keep_cell b5 y3
        have s := owns_below s b5
        have v := owns_below v b5
        have p3 := owns_below p3 b5
        have p4 := owns_below p4 b5
        have o := owns_below o b5
        have q := owns_below q b5
        have b5A := b4A.trans (b5.mono b4A.size)
        have z5 := b5.size
        clear b5 b4A
        go_wp2_with fail
        have HS : Hid (∀ W', Below w5.heap.size w5 W' → W'.cell? ⟨Q, 0, none⟩ = some (.slice (some ⟨g3, 0, none⟩) n n) ∧ W'.cell? ⟨Q, 1, none⟩ = some (.slice (some ⟨g4, 0, none⟩) m m) ∧ W'.cell? ⟨w.heap.size, 0, none⟩ = some (.slice a n cap) ∧ W'.cell? ⟨w.heap.size, 1, none⟩ = some (.slice a' m cap') ∧ Below w5.heap.size w5 W') := fun W' hW => ⟨keep_cell hW x0, keep_cell hW x1, keep_cell hW u0, keep_cell hW u1, hW⟩
        refine wp_region_noPanic ?_
        refine wp_region_held_drew (S := fun W' => W'.cell? ⟨Q, 0, none⟩ = some (.slice (some ⟨g3, 0, none⟩) n n) ∧ W'.cell? ⟨Q, 1, none⟩ = some (.slice (some ⟨g4, 0, none⟩) m m) ∧ W'.cell? ⟨w.heap.size, 0, none⟩ = some (.slice a n cap) ∧ W'.cell? ⟨w.heap.size, 1, none⟩ = some (.slice a' m cap') ∧ Below w5.heap.size w5 W') (by kernel_rfl) (HS.out _ (Below.refl _ _).drew) (fun hH => ?_)
        refine hTake (i := 0) (v := ?_) rfl (by kernel_rfl) (by kernel_rfl) (by kernel_rfl) (by rfl) ?_ hH ?_
        rotate_left
        · intro W hW; (try dsimp only at hW); go_simp <;> with_reducible rfl
        simp only [Act.put, List.setIfInBounds_toArray, List.set_cons_zero, List.set_cons_succ]
        refine hTake (i := 1) (v := ?_) rfl (by kernel_rfl) (by kernel_rfl) (by kernel_rfl) (by rfl) ?_ hH ?_
        rotate_left
        · intro W hW; (try dsimp only at hW); go_simp <;> with_reducible rfl
        simp only [Act.put, List.setIfInBounds_toArray, List.set_cons_zero, List.set_cons_succ]
        refine wpAnyH_ready (rs := [2]) (by kernel_rfl) (by simp) ?_
        refine AllReadyH.cons rfl (fun K hK => ?_) AllReadyH.nil
        go_simp
        refine (toWal_any a a' n m cap cap' ss ls _ (h.below (b5A.trans (hH.2.2.2.2.mono b5A.size))) (h'.below (b5A.trans (hH.2.2.2.2.mono b5A.size))) hn' hm').mono ?_
        rintro e w6 ⟨g5, g6, rfl, o5, o6, hg5, b6⟩
        have b6A := hH.2.2.2.2.trans (b6.mono (by simp))
        go_wp2_with fail
        refine hK.out _ _ ?_ (fun hH => ?_)
        · exact HS.out _ b6A
        clear hK K
        refine wpAnyH_ready (rs := [3]) (by kernel_rfl) (by simp) ?_
        refine AllReadyH.cons rfl (fun K hK => ?_) AllReadyH.nil
        go_simp
        refine (eqWal_same _ _ _ _ n m n m n m ss ls _ (owns_bytes (owns_below p3 b6A)) (owns_bytes (owns_below p4 b6A)) (owns_bytes o5) (owns_bytes o6) (by omega) (by omega)).mono ?_
        rintro e w7 ⟨rfl, b7⟩
        have b7A := b6A.trans (b7.mono b6A.size)
        go_wp2_with fail
        refine hK.out _ _ ?_ (fun hH => ?_)
        · exact HS.out _ b7A
        clear hK K
        refine hTake (i := 4) (v := ?_) rfl (by kernel_rfl) (by kernel_rfl) (by kernel_rfl) (by rfl) ?_ hH ?_
        rotate_left
        · intro W hW; (try dsimp only at hW); go_simp <;> with_reducible rfl
        simp only [Act.put, List.setIfInBounds_toArray, List.set_cons_zero, List.set_cons_succ]
        refine wpAnyH_done (by kernel_rfl) ?_ _
        refine NoPanic.normal ?_
        clear hH HS o5 o6 b6 b6A b7
        have b7B := b5A.trans (b7A.mono b5A.size)
        have u0 := keep_cell b7A u0
        have u1 := keep_cell b7A u1
        have r0 := keep_cell b7A r0
        have r1 := keep_cell b7A r1
        have r2 := keep_cell b7A r2
        have r3 := keep_cell b7A r3
        have r4 := keep_cell b7A r4
        have r5 := keep_cell b7A r5
        have r6 := keep_cell b7A r6
        have s0 := keep_cell b7A s0
        have s1 := keep_cell b7A s1
        have s2 := keep_cell b7A s2
        have s3 := keep_cell b7A s3
        have x0 := keep_cell b7A x0
        have x1 := keep_cell b7A x1
        have y0 := keep_cell b7A y0
        have y1 := keep_cell b7A y1
        have y2 := keep_cell b7A y2
        have y3 := keep_cell b7A y3
        have s := owns_below s b7A
        have v := owns_below v b7A
        have p3 := owns_below p3 b7A
        have p4 := owns_below p4 b7A
        have o := owns_below o b7A
        have q := owns_below q b7A
        have z7 := b7A.size
        clear b7A b5A
        go_wp2_with fail
        refine (markWal_any _ _ _ _ n m n m ss ls _ p3 p4 (fun g hg hk => by simp [Value.ownBlock] at hg hk; omega) hn' hm').mono ?_
        rintro e w8 ⟨rfl, _, _, wm, gA, gB⟩
        have hA : (Value.slice (some ⟨g3, 0, none⟩) n n).ownBlock = some g3 := rfl
        have hB : (Value.slice (some ⟨g4, 0, none⟩) m m).ownBlock = some g4 := rfl
        rw [hA] at gA
        rw [hB] at gB
        have b8 := (b7B.grown gA b7B.size (fun k hk => by simp at hk; omega)).grown gB (Nat.le_trans b7B.size gA.size) (fun k hk => by simp at hk; omega)
        have u0 := grown_cell gA u0 (by simp; omega)
        have u1 := grown_cell gA u1 (by simp; omega)
        have r0 := grown_cell gA r0 (by simp; omega)
        have r1 := grown_cell gA r1 (by simp; omega)
        have r2 := grown_cell gA r2 (by simp; omega)
        have r3 := grown_cell gA r3 (by simp; omega)
        have r4 := grown_cell gA r4 (by simp; omega)
        have r5 := grown_cell gA r5 (by simp; omega)
        have r6 := grown_cell gA r6 (by simp; omega)
        have s0 := grown_cell gA s0 (by simp; omega)
        have s1 := grown_cell gA s1 (by simp; omega)
        have s2 := grown_cell gA s2 (by simp; omega)
        have s3 := grown_cell gA s3 (by simp; omega)
        have x0 := grown_cell gA x0 (by simp; omega)
        have x1 := grown_cell gA x1 (by simp; omega)
        have y0 := grown_cell gA y0 (by simp; omega)
        have y1 := grown_cell gA y1 (by simp; omega)
        have y2 := grown_cell gA y2 (by simp; omega)
        have y3 := grown_cell gA y3 (by simp; omega)
        have u0 := grown_cell gB u0 (by simp; omega)
        have u1 := grown_cell gB u1 (by simp; omega)
        have r0 := grown_cell gB r0 (by simp; omega)
        have r1 := grown_cell gB r1 (by simp; omega)
        have r2 := grown_cell gB r2 (by simp; omega)
        have r3 := grown_cell gB r3 (by simp; omega)
        have r4 := grown_cell gB r4 (by simp; omega)
        have r5 := grown_cell gB r5 (by simp; omega)
        have r6 := grown_cell gB r6 (by simp; omega)
        have s0 := grown_cell gB s0 (by simp; omega)
        have s1 := grown_cell gB s1 (by simp; omega)
        have s2 := grown_cell gB s2 (by simp; omega)
        have s3 := grown_cell gB s3 (by simp; omega)
        have x0 := grown_cell gB x0 (by simp; omega)
        have x1 := grown_cell gB x1 (by simp; omega)
        have y0 := grown_cell gB y0 (by simp; omega)
        have y1 := grown_cell gB y1 (by simp; omega)
        have y2 := grown_cell gB y2 (by simp; omega)
        have y3 := grown_cell gB y3 (by simp; omega)
        have s := owns_grown (owns_grown s gA (fun g hg => by have := Ls g hg; simp; omega)) gB (fun g hg => by have := Ls g hg; simp; omega)
        have v := owns_grown (owns_grown v gA (fun g hg => by have := Lv g hg; simp; omega)) gB (fun g hg => by have := Lv g hg; simp; omega)
        have o := owns_grown (owns_grown o gA (fun g hg => by have := Lo g hg; simp; omega)) gB (fun g hg => by have := Lo g hg; simp; omega)
        have q := owns_grown (owns_grown q gA (fun g hg => by have := Lq g hg; simp; omega)) gB (fun g hg => by have := Lq g hg; simp; omega)
        clear gA gB hA hB b7B p3 p4
        generalize hr : 1 + n + m = r at *
        have hr0 : ¬ (r : Int) < 0 := by omega
        go_wp2_with fail
        refine (eqWalResult_same _ _ oa qa sa va ok qk oc qc sc vc fs fl _ (owns_bytes o) (owns_bytes q) (owns_bytes s) (owns_bytes v) (by omega) (by omega)).mono ?_
        rintro e w9 ⟨rfl, b9⟩
        have u0 := keep_cell b9 u0
        have u1 := keep_cell b9 u1
        have r0 := keep_cell b9 r0
        have r1 := keep_cell b9 r1
        have r2 := keep_cell b9 r2
        have r3 := keep_cell b9 r3
        have r4 := keep_cell b9 r4
        have r5 := keep_cell b9 r5
        have r6 := keep_cell b9 r6
        have s0 := keep_cell b9 s0
        have s1 := keep_cell b9 s1
        have s2 := keep_cell b9 s2
        have s3 := keep_cell b9 s3
        have y0 := keep_cell b9 y0
        have y1 := keep_cell b9 y1
        have y2 := keep_cell b9 y2
        have y3 := keep_cell b9 y3
        have s := owns_below s b9
        have v := owns_below v b9
        have o := owns_below o b9
        have q := owns_below q b9
        have b9A := b8.trans (b9.mono b8.size)
        clear b9 b8 x0 x1
        obtain ⟨tt, htt⟩ : ∃ t : Nat, t = 1 + ok + qk := ⟨_, rfl⟩
        have hq0 : ¬ (tt : Int) < 0 := by omega
        have hq1 : ((tt : Int) != (tt : Int)) = false := by simp
        go_wp2_with fail
        refine (markWalResult_any _ _ _ _ oa qa ok qk oc qc fs fl _ o q hdis (by omega) (by omega)).mono ?_
        rw [← htt]
        rintro e w10 ⟨rfl, o5, q5, wn, gC, gD⟩
        have b10 := (b9A.grown gC b9A.size (fun k hk => by have := Lo k hk; omega)).grown gD (Nat.le_trans b9A.size gC.size) (fun k hk => by have := Lq k hk; omega)
        have u0 := grown_cell gC u0 (fun hk => by have := Lo _ hk; omega)
        have u1 := grown_cell gC u1 (fun hk => by have := Lo _ hk; omega)
        have r0 := grown_cell gC r0 (fun hk => by have := Lo _ hk; omega)
        have r1 := grown_cell gC r1 (fun hk => by have := Lo _ hk; omega)
        have r2 := grown_cell gC r2 (fun hk => by have := Lo _ hk; omega)
        have r3 := grown_cell gC r3 (fun hk => by have := Lo _ hk; omega)
        have r4 := grown_cell gC r4 (fun hk => by have := Lo _ hk; omega)
        have r5 := grown_cell gC r5 (fun hk => by have := Lo _ hk; omega)
        have r6 := grown_cell gC r6 (fun hk => by have := Lo _ hk; omega)
        have s0 := grown_cell gC s0 (fun hk => by have := Lo _ hk; omega)
        have s1 := grown_cell gC s1 (fun hk => by have := Lo _ hk; omega)
        have s2 := grown_cell gC s2 (fun hk => by have := Lo _ hk; omega)
        have s3 := grown_cell gC s3 (fun hk => by have := Lo _ hk; omega)
        have u0 := grown_cell gD u0 (fun hk => by have := Lq _ hk; omega)
        have u1 := grown_cell gD u1 (fun hk => by have := Lq _ hk; omega)
        have r0 := grown_cell gD r0 (fun hk => by have := Lq _ hk; omega)
        have r1 := grown_cell gD r1 (fun hk => by have := Lq _ hk; omega)
        have r2 := grown_cell gD r2 (fun hk => by have := Lq _ hk; omega)
        have r3 := grown_cell gD r3 (fun hk => by have := Lq _ hk; omega)
        have r4 := grown_cell gD r4 (fun hk => by have := Lq _ hk; omega)
        have r5 := grown_cell gD r5 (fun hk => by have := Lq _ hk; omega)
        have r6 := grown_cell gD r6 (fun hk => by have := Lq _ hk; omega)
        have s0 := grown_cell gD s0 (fun hk => by have := Lq _ hk; omega)
        have s1 := grown_cell gD s1 (fun hk => by have := Lq _ hk; omega)
        have s2 := grown_cell gD s2 (fun hk => by have := Lq _ hk; omega)
        have s3 := grown_cell gD s3 (fun hk => by have := Lq _ hk; omega)
        have y0 := grown_cell gC y0 (fun hk => no _ hk rfl)
        have y1 := grown_cell gC y1 (fun hk => no _ hk rfl)
        have y2 := grown_cell gC y2 (fun hk => no _ hk rfl)
        have y3 := grown_cell gC y3 (fun hk => no _ hk rfl)
        have y0 := grown_cell gD y0 (fun hk => nq _ hk rfl)
        have y1 := grown_cell gD y1 (fun hk => nq _ hk rfl)
        have y2 := grown_cell gD y2 (fun hk => nq _ hk rfl)
        have y3 := grown_cell gD y3 (fun hk => nq _ hk rfl)
        have s := owns_grown (owns_grown s gC (fun g hg hk => by have := Ls g hg; have := Lo g hk; omega)) gD (fun g hg hk => by have := Ls g hg; have := Lq g hk; omega)
        have v := owns_grown (owns_grown v gC (fun g hg hk => by have := Lv g hg; have := Lo g hk; omega)) gD (fun g hg hk => by have := Lv g hg; have := Lq g hk; omega)
        clear gC gD b9A o q
        go_wp2_with fail
        refine (heldWalResult_any _ _ oa qa ok qk oc qc _ (owns_bytes o5) (owns_bytes q5) (by omega) (by omega)).mono ?_
        rw [← htt]
        rintro e w11 ⟨rfl, b11⟩
        have u0 := keep_cell b11 u0
        have u1 := keep_cell b11 u1
        have r0 := keep_cell b11 r0
        have r1 := keep_cell b11 r1
        have r2 := keep_cell b11 r2
        have r3 := keep_cell b11 r3
        have r4 := keep_cell b11 r4
        have r5 := keep_cell b11 r5
        have r6 := keep_cell b11 r6
        have s0 := keep_cell b11 s0
        have s1 := keep_cell b11 s1
        have s2 := keep_cell b11 s2
        have s3 := keep_cell b11 s3
        have y0 := keep_cell b11 y0
        have y1 := keep_cell b11 y1
        have y2 := keep_cell b11 y2
        have y3 := keep_cell b11 y3
        have s := owns_below s b11
        have v := owns_below v b11
        have o5 := owns_below o5 b11
        have q5 := owns_below q5 b11
        have b11A := b10.trans (b11.mono b10.size)
        clear b11 b10
        have b11 := b11A
        clear b11A
        go_upto_region 24 with fail
        go_cut [12] (fun s wx => ∃ P a2 k2 c2 e2 j2 f2, s = .pointer (some ⟨P, 0, none⟩) ∧ ResAt wx w11 P fc fn a2 k2 c2 e2 j2 f2 fs fl ∧ ∀ g, (Value.slice a2 k2 c2).ownBlock = some g → (Value.slice e2 j2 f2).ownBlock ≠ some g)
        case first =>
          have BASE : Hid (∀ W, Below w11.heap.size w11 W → Below w.heap.size w W) := fun W hW => b11.trans (hW.mono b11.size)
          have HS : Hid (∀ W', Below w11.heap.size w11 W' → W'.cell? ⟨w.heap.size, 0, none⟩ = some (.slice a n cap) ∧ W'.cell? ⟨w.heap.size, 1, none⟩ = some (.slice a' m cap') ∧ W'.cell? ⟨w.heap.size + 1, 0, none⟩ = some (.int .i64 kd) ∧ W'.cell? ⟨w.heap.size + 1, 1, none⟩ = some (.int .i64 tx) ∧ W'.cell? ⟨w.heap.size + 1, 2, none⟩ = some (.int .i64 ky) ∧ W'.cell? ⟨w.heap.size + 1, 3, none⟩ = some (.bool hd) ∧ W'.cell? ⟨w.heap.size + 1, 4, none⟩ = some (.int .i64 ol) ∧ W'.cell? ⟨w.heap.size + 1, 5, none⟩ = some (.bool hs) ∧ W'.cell? ⟨w.heap.size + 1, 6, none⟩ = some (.int .i64 nw)) := fun W' hW => ⟨keep_cell hW u0, keep_cell hW u1, keep_cell hW r0, keep_cell hW r1, keep_cell hW r2, keep_cell hW r3, keep_cell hW r4, keep_cell hW r5, keep_cell hW r6⟩
          refine wp_region_noPanic ?_
          refine wp_region_held_drew (S := fun W' => W'.cell? ⟨w.heap.size, 0, none⟩ = some (.slice a n cap) ∧ W'.cell? ⟨w.heap.size, 1, none⟩ = some (.slice a' m cap') ∧ W'.cell? ⟨w.heap.size + 1, 0, none⟩ = some (.int .i64 kd) ∧ W'.cell? ⟨w.heap.size + 1, 1, none⟩ = some (.int .i64 tx) ∧ W'.cell? ⟨w.heap.size + 1, 2, none⟩ = some (.int .i64 ky) ∧ W'.cell? ⟨w.heap.size + 1, 3, none⟩ = some (.bool hd) ∧ W'.cell? ⟨w.heap.size + 1, 4, none⟩ = some (.int .i64 ol) ∧ W'.cell? ⟨w.heap.size + 1, 5, none⟩ = some (.bool hs) ∧ W'.cell? ⟨w.heap.size + 1, 6, none⟩ = some (.int .i64 nw)) (by kernel_rfl) (HS.out _ (Below.refl _ _).drew) (fun hH => ?_)
          refine hTake (i := 0) (v := ?_) rfl (by kernel_rfl) (by kernel_rfl) (by kernel_rfl) (by rfl) ?_ hH ?_
          rotate_left
          · intro W hW; (try dsimp only at hW); go_simp <;> with_reducible rfl
          simp only [Act.put, List.setIfInBounds_toArray, List.set_cons_zero, List.set_cons_succ]
          refine hTake (i := 2) (v := ?_) rfl (by kernel_rfl) (by kernel_rfl) (by kernel_rfl) (by rfl) ?_ hH ?_
          rotate_left
          · intro W hW; (try dsimp only at hW); go_simp <;> with_reducible rfl
          simp only [Act.put, List.setIfInBounds_toArray, List.set_cons_zero, List.set_cons_succ]
          have bd : Below w11.heap.size w11 w11.drew := (Below.refl _ _).drew
          have zd := bd.size
          generalize w11.drew = w11d at *
          refine wpAnyH_ready (rs := [1, 5]) (by kernel_rfl) (by simp) ?_
          refine AllReadyH.cons rfl (fun K hK => ?_) (AllReadyH.cons rfl (fun K hK => ?_) AllReadyH.nil)
          focus
            go_simp
            refine (toWal_any a a' n m cap cap' ss ls _ (h.below (BASE.out _ bd)) (h'.below (BASE.out _ bd)) hn' hm').mono ?_
            rintro e wa ⟨g1, g2, rfl, o1, o2, hg, bwa⟩
            have zwa := bwa.size
            have Bwa := bd.trans (bwa.mono bd.size)
            have Lo1 := owns_lt o1
            have Lo2 := owns_lt o2
            go_wp2_with fail
            refine hK.out _ _ ?_ (fun hH => ?_)
            · exact HS.out _ Bwa
            clear hK K
            refine wpAnyH_ready (rs := [3, 5]) (by kernel_rfl) (by simp) ?_
            refine AllReadyH.cons rfl (fun K hK => ?_) (AllReadyH.cons rfl (fun K hK => ?_) AllReadyH.nil)
            focus
              go_simp
              refine (toRec_any kd tx ky hd ol hs nw _).mono ?_
              rintro e wb ⟨rfl, bwb⟩
              have zwb := bwb.size
              have Bwb := Bwa.trans (bwb.mono Bwa.size)
              have o1 := owns_below o1 bwb
              have o2 := owns_below o2 bwb
              go_wp2_with fail
              refine hK.out _ _ ?_ (fun hH => ?_)
              · exact HS.out _ Bwb
              clear hK K
              refine wpAnyH_ready (rs := [4, 5]) (by kernel_rfl) (by simp) ?_
              refine AllReadyH.cons rfl (fun K hK => ?_) (AllReadyH.cons rfl (fun K hK => ?_) AllReadyH.nil)
              focus
                go_simp
                refine (II _ ⟨g1, 0, none⟩ ⟨g2, 0, none⟩ (owns_bytes o1) (owns_bytes o2)).mono ?_
                rintro e wc1 ⟨a2, k2, c2, e2, j2, f2, rfl, hk, hj, t1, t2, hdis, bwc1⟩
                have zwc1 := bwc1.size
                have Bwc1 := Bwb.trans (bwc1.mono Bwb.size)
                have o1 := owns_below o1 bwc1
                have o2 := owns_below o2 bwc1
                have Lt1 := owns_lt t1
                have Lt2 := owns_lt t2
                go_wp2_with fail
                refine hK.out _ _ ?_ (fun hH => ?_)
                · exact HS.out _ Bwc1
                clear hK K
                refine wpAnyH_ready (rs := [5]) (by kernel_rfl) (by simp) ?_
                refine AllReadyH.cons rfl (fun K hK => ?_) AllReadyH.nil
                go_simp
                refine hK.out _ _ ?_ (fun hH => ?_)
                · exact HS.out _ (Bwc1.alloc Bwc1.size _)
                clear hK K
                have bal : Below wc1.heap.size wc1 (wc1.alloc (.cells #[.int .i64 0, .int .i64 0, .slice none 0 0, .slice none 0 0] 41)) := (Below.refl _ _).alloc (Nat.le_refl _) _
                have hPA := Bwc1.size
                have Bwc1A := Bwc1.alloc Bwc1.size (.cells #[.int .i64 0, .int .i64 0, .slice none 0 0, .slice none 0 0] 41)
                have bp0 : (wc1.alloc (.cells #[.int .i64 0, .int .i64 0, .slice none 0 0, .slice none 0 0] 41)).cell? ⟨wc1.heap.size, 0, none⟩ = some (.int .i64 0) := by simp [go_sem]
                have bq0 : (wc1.alloc (.cells #[.int .i64 0, .int .i64 0, .slice none 0 0, .slice none 0 0] 41)).frozen? ⟨wc1.heap.size, 0, none⟩ = false := by simp [go_sem]
                have bp1 : (wc1.alloc (.cells #[.int .i64 0, .int .i64 0, .slice none 0 0, .slice none 0 0] 41)).cell? ⟨wc1.heap.size, 1, none⟩ = some (.int .i64 0) := by simp [go_sem]
                have bq1 : (wc1.alloc (.cells #[.int .i64 0, .int .i64 0, .slice none 0 0, .slice none 0 0] 41)).frozen? ⟨wc1.heap.size, 1, none⟩ = false := by simp [go_sem]
                have bp2 : (wc1.alloc (.cells #[.int .i64 0, .int .i64 0, .slice none 0 0, .slice none 0 0] 41)).cell? ⟨wc1.heap.size, 2, none⟩ = some (.slice none 0 0) := by simp [go_sem]
                have bq2 : (wc1.alloc (.cells #[.int .i64 0, .int .i64 0, .slice none 0 0, .slice none 0 0] 41)).frozen? ⟨wc1.heap.size, 2, none⟩ = false := by simp [go_sem]
                have bp3 : (wc1.alloc (.cells #[.int .i64 0, .int .i64 0, .slice none 0 0, .slice none 0 0] 41)).cell? ⟨wc1.heap.size, 3, none⟩ = some (.slice none 0 0) := by simp [go_sem]
                have bq3 : (wc1.alloc (.cells #[.int .i64 0, .int .i64 0, .slice none 0 0, .slice none 0 0] 41)).frozen? ⟨wc1.heap.size, 3, none⟩ = false := by simp [go_sem]
                have o1 := owns_below o1 bal
                have o2 := owns_below o2 bal
                have t1 := owns_below t1 bal
                have t2 := owns_below t2 bal
                generalize wc1.alloc (.cells #[.int .i64 0, .int .i64 0, .slice none 0 0, .slice none 0 0] 41) = wc1A at *
                refine wpAnyH_ready (rs := [6]) (by kernel_rfl) (by simp) ?_
                refine AllReadyH.cons rfl (fun K hK => ?_) AllReadyH.nil
                go_simp
                refine hK.out _ _ ?_ (fun hH => ?_)
                · exact HS.out _ ((((Bwc1A.setCell (p := ⟨wc1.heap.size, 0, none⟩) hPA _).setCell (p := ⟨wc1.heap.size, 1, none⟩) hPA _).setCell (p := ⟨wc1.heap.size, 2, none⟩) hPA _).setCell (p := ⟨wc1.heap.size, 3, none⟩) hPA _)
                clear hK K
                refine wpAnyH_done (by kernel_rfl) ?_ _
                refine NoPanic.normal ?_
                go_wp2_with fail
                go_meet
                exact ⟨wc1.heap.size, _, _, _, _, _, _, rfl, ⟨hPA, by have := lt_of_cell bp0; simp; omega, by simp [go_sem, bp0, bp1, bp2, bp3], by simp [go_sem, bp0, bp1, bp2, bp3], by simp [go_sem, bp0, bp1, bp2, bp3], by simp [go_sem, bp0, bp1, bp2, bp3], by omega, by omega, owns_base (owns_cell (owns_cell (owns_cell (owns_cell t1 (p := wc1.heap.size) (o := 0) (fun g hg => by have := Lt1 g hg; omega) _) (p := wc1.heap.size) (o := 1) (fun g hg => by have := Lt1 g hg; omega) _) (p := wc1.heap.size) (o := 2) (fun g hg => by have := Lt1 g hg; omega) _) (p := wc1.heap.size) (o := 3) (fun g hg => by have := Lt1 g hg; omega) _) (by omega), owns_base (owns_cell (owns_cell (owns_cell (owns_cell t2 (p := wc1.heap.size) (o := 0) (fun g hg => by have := Lt2 g hg; omega) _) (p := wc1.heap.size) (o := 1) (fun g hg => by have := Lt2 g hg; omega) _) (p := wc1.heap.size) (o := 2) (fun g hg => by have := Lt2 g hg; omega) _) (p := wc1.heap.size) (o := 3) (fun g hg => by have := Lt2 g hg; omega) _) (by omega), fun g hg => by have := Lt1 g hg; omega, fun g hg => by have := Lt2 g hg; omega, ((((Bwc1A.setCell (p := ⟨wc1.heap.size, 0, none⟩) hPA _).setCell (p := ⟨wc1.heap.size, 1, none⟩) hPA _).setCell (p := ⟨wc1.heap.size, 2, none⟩) hPA _).setCell (p := ⟨wc1.heap.size, 3, none⟩) hPA _)⟩, hdis⟩
              focus
                go_simp
                refine hK.out _ _ ?_ (fun hH => ?_)
                · exact HS.out _ (Bwb.alloc Bwb.size _)
                clear hK K
                have bal : Below wb.heap.size wb (wb.alloc (.cells #[.int .i64 0, .int .i64 0, .slice none 0 0, .slice none 0 0] 41)) := (Below.refl _ _).alloc (Nat.le_refl _) _
                have hPA := Bwb.size
                have BwbA := Bwb.alloc Bwb.size (.cells #[.int .i64 0, .int .i64 0, .slice none 0 0, .slice none 0 0] 41)
                have bp0 : (wb.alloc (.cells #[.int .i64 0, .int .i64 0, .slice none 0 0, .slice none 0 0] 41)).cell? ⟨wb.heap.size, 0, none⟩ = some (.int .i64 0) := by simp [go_sem]
                have bq0 : (wb.alloc (.cells #[.int .i64 0, .int .i64 0, .slice none 0 0, .slice none 0 0] 41)).frozen? ⟨wb.heap.size, 0, none⟩ = false := by simp [go_sem]
                have bp1 : (wb.alloc (.cells #[.int .i64 0, .int .i64 0, .slice none 0 0, .slice none 0 0] 41)).cell? ⟨wb.heap.size, 1, none⟩ = some (.int .i64 0) := by simp [go_sem]
                have bq1 : (wb.alloc (.cells #[.int .i64 0, .int .i64 0, .slice none 0 0, .slice none 0 0] 41)).frozen? ⟨wb.heap.size, 1, none⟩ = false := by simp [go_sem]
                have bp2 : (wb.alloc (.cells #[.int .i64 0, .int .i64 0, .slice none 0 0, .slice none 0 0] 41)).cell? ⟨wb.heap.size, 2, none⟩ = some (.slice none 0 0) := by simp [go_sem]
                have bq2 : (wb.alloc (.cells #[.int .i64 0, .int .i64 0, .slice none 0 0, .slice none 0 0] 41)).frozen? ⟨wb.heap.size, 2, none⟩ = false := by simp [go_sem]
                have bp3 : (wb.alloc (.cells #[.int .i64 0, .int .i64 0, .slice none 0 0, .slice none 0 0] 41)).cell? ⟨wb.heap.size, 3, none⟩ = some (.slice none 0 0) := by simp [go_sem]
                have bq3 : (wb.alloc (.cells #[.int .i64 0, .int .i64 0, .slice none 0 0, .slice none 0 0] 41)).frozen? ⟨wb.heap.size, 3, none⟩ = false := by simp [go_sem]
                have o1 := owns_below o1 bal
                have o2 := owns_below o2 bal
                generalize wb.alloc (.cells #[.int .i64 0, .int .i64 0, .slice none 0 0, .slice none 0 0] 41) = wbA at *
                refine wpAnyH_ready (rs := [4]) (by kernel_rfl) (by simp) ?_
                refine AllReadyH.cons rfl (fun K hK => ?_) AllReadyH.nil
                go_simp
                refine (II _ ⟨g1, 0, none⟩ ⟨g2, 0, none⟩ (owns_bytes o1) (owns_bytes o2)).mono ?_
                rintro e wc1 ⟨a2, k2, c2, e2, j2, f2, rfl, hk, hj, t1, t2, hdis, bwc1⟩
                have zwc1 := bwc1.size
                have Bwc1 := BwbA.trans (bwc1.mono BwbA.size)
                have o1 := owns_below o1 bwc1
                have o2 := owns_below o2 bwc1
                have lPwc1 := lt_of_cell bp0
                have bq0 := ((bcell bwc1).2 _ _ lPwc1).trans bq0
                have bp0 := keep_cell bwc1 bp0
                have bq1 := ((bcell bwc1).2 _ _ lPwc1).trans bq1
                have bp1 := keep_cell bwc1 bp1
                have bq2 := ((bcell bwc1).2 _ _ lPwc1).trans bq2
                have bp2 := keep_cell bwc1 bp2
                have bq3 := ((bcell bwc1).2 _ _ lPwc1).trans bq3
                have bp3 := keep_cell bwc1 bp3
                have Lt1 := owns_lt t1
                have Lt2 := owns_lt t2
                go_wp2_with fail
                refine hK.out _ _ ?_ (fun hH => ?_)
                · exact HS.out _ Bwc1
                clear hK K
                refine wpAnyH_ready (rs := [6]) (by kernel_rfl) (by simp) ?_
                refine AllReadyH.cons rfl (fun K hK => ?_) AllReadyH.nil
                go_simp
                refine hK.out _ _ ?_ (fun hH => ?_)
                · exact HS.out _ ((((Bwc1.setCell (p := ⟨wb.heap.size, 0, none⟩) hPA _).setCell (p := ⟨wb.heap.size, 1, none⟩) hPA _).setCell (p := ⟨wb.heap.size, 2, none⟩) hPA _).setCell (p := ⟨wb.heap.size, 3, none⟩) hPA _)
                clear hK K
                refine wpAnyH_done (by kernel_rfl) ?_ _
                refine NoPanic.normal ?_
                go_wp2_with fail
                go_meet
                exact ⟨wb.heap.size, _, _, _, _, _, _, rfl, ⟨hPA, by have := lt_of_cell bp0; simp; omega, by simp [go_sem, bp0, bp1, bp2, bp3], by simp [go_sem, bp0, bp1, bp2, bp3], by simp [go_sem, bp0, bp1, bp2, bp3], by simp [go_sem, bp0, bp1, bp2, bp3], by omega, by omega, owns_base (owns_cell (owns_cell (owns_cell (owns_cell t1 (p := wb.heap.size) (o := 0) (fun g hg => by have := Lt1 g hg; omega) _) (p := wb.heap.size) (o := 1) (fun g hg => by have := Lt1 g hg; omega) _) (p := wb.heap.size) (o := 2) (fun g hg => by have := Lt1 g hg; omega) _) (p := wb.heap.size) (o := 3) (fun g hg => by have := Lt1 g hg; omega) _) (by omega), owns_base (owns_cell (owns_cell (owns_cell (owns_cell t2 (p := wb.heap.size) (o := 0) (fun g hg => by have := Lt2 g hg; omega) _) (p := wb.heap.size) (o := 1) (fun g hg => by have := Lt2 g hg; omega) _) (p := wb.heap.size) (o := 2) (fun g hg => by have := Lt2 g hg; omega) _) (p := wb.heap.size) (o := 3) (fun g hg => by have := Lt2 g hg; omega) _) (by omega), fun g hg => by have := Lt1 g hg; omega, fun g hg => by have := Lt2 g hg; omega, ((((Bwc1.setCell (p := ⟨wb.heap.size, 0, none⟩) hPA _).setCell (p := ⟨wb.heap.size, 1, none⟩) hPA _).setCell (p := ⟨wb.heap.size, 2, none⟩) hPA _).setCell (p := ⟨wb.heap.size, 3, none⟩) hPA _)⟩, hdis⟩
            focus
              go_simp
              refine hK.out _ _ ?_ (fun hH => ?_)
              · exact HS.out _ (Bwa.alloc Bwa.size _)
              clear hK K
              have bal : Below wa.heap.size wa (wa.alloc (.cells #[.int .i64 0, .int .i64 0, .slice none 0 0, .slice none 0 0] 41)) := (Below.refl _ _).alloc (Nat.le_refl _) _
              have hPA := Bwa.size
              have BwaA := Bwa.alloc Bwa.size (.cells #[.int .i64 0, .int .i64 0, .slice none 0 0, .slice none 0 0] 41)
              have bp0 : (wa.alloc (.cells #[.int .i64 0, .int .i64 0, .slice none 0 0, .slice none 0 0] 41)).cell? ⟨wa.heap.size, 0, none⟩ = some (.int .i64 0) := by simp [go_sem]
              have bq0 : (wa.alloc (.cells #[.int .i64 0, .int .i64 0, .slice none 0 0, .slice none 0 0] 41)).frozen? ⟨wa.heap.size, 0, none⟩ = false := by simp [go_sem]
              have bp1 : (wa.alloc (.cells #[.int .i64 0, .int .i64 0, .slice none 0 0, .slice none 0 0] 41)).cell? ⟨wa.heap.size, 1, none⟩ = some (.int .i64 0) := by simp [go_sem]
              have bq1 : (wa.alloc (.cells #[.int .i64 0, .int .i64 0, .slice none 0 0, .slice none 0 0] 41)).frozen? ⟨wa.heap.size, 1, none⟩ = false := by simp [go_sem]
              have bp2 : (wa.alloc (.cells #[.int .i64 0, .int .i64 0, .slice none 0 0, .slice none 0 0] 41)).cell? ⟨wa.heap.size, 2, none⟩ = some (.slice none 0 0) := by simp [go_sem]
              have bq2 : (wa.alloc (.cells #[.int .i64 0, .int .i64 0, .slice none 0 0, .slice none 0 0] 41)).frozen? ⟨wa.heap.size, 2, none⟩ = false := by simp [go_sem]
              have bp3 : (wa.alloc (.cells #[.int .i64 0, .int .i64 0, .slice none 0 0, .slice none 0 0] 41)).cell? ⟨wa.heap.size, 3, none⟩ = some (.slice none 0 0) := by simp [go_sem]
              have bq3 : (wa.alloc (.cells #[.int .i64 0, .int .i64 0, .slice none 0 0, .slice none 0 0] 41)).frozen? ⟨wa.heap.size, 3, none⟩ = false := by simp [go_sem]
              have o1 := owns_below o1 bal
              have o2 := owns_below o2 bal
              generalize wa.alloc (.cells #[.int .i64 0, .int .i64 0, .slice none 0 0, .slice none 0 0] 41) = waA at *
              refine wpAnyH_ready (rs := [3]) (by kernel_rfl) (by simp) ?_
              refine AllReadyH.cons rfl (fun K hK => ?_) AllReadyH.nil
              go_simp
              refine (toRec_any kd tx ky hd ol hs nw _).mono ?_
              rintro e wb ⟨rfl, bwb⟩
              have zwb := bwb.size
              have Bwb := BwaA.trans (bwb.mono BwaA.size)
              have o1 := owns_below o1 bwb
              have o2 := owns_below o2 bwb
              have lPwb := lt_of_cell bp0
              have bq0 := ((bcell bwb).2 _ _ lPwb).trans bq0
              have bp0 := keep_cell bwb bp0
              have bq1 := ((bcell bwb).2 _ _ lPwb).trans bq1
              have bp1 := keep_cell bwb bp1
              have bq2 := ((bcell bwb).2 _ _ lPwb).trans bq2
              have bp2 := keep_cell bwb bp2
              have bq3 := ((bcell bwb).2 _ _ lPwb).trans bq3
              have bp3 := keep_cell bwb bp3
              go_wp2_with fail
              refine hK.out _ _ ?_ (fun hH => ?_)
              · exact HS.out _ Bwb
              clear hK K
              refine wpAnyH_ready (rs := [4]) (by kernel_rfl) (by simp) ?_
              refine AllReadyH.cons rfl (fun K hK => ?_) AllReadyH.nil
              go_simp
              refine (II _ ⟨g1, 0, none⟩ ⟨g2, 0, none⟩ (owns_bytes o1) (owns_bytes o2)).mono ?_
              rintro e wc1 ⟨a2, k2, c2, e2, j2, f2, rfl, hk, hj, t1, t2, hdis, bwc1⟩
              have zwc1 := bwc1.size
              have Bwc1 := Bwb.trans (bwc1.mono Bwb.size)
              have o1 := owns_below o1 bwc1
              have o2 := owns_below o2 bwc1
              have lPwc1 := lt_of_cell bp0
              have bq0 := ((bcell bwc1).2 _ _ lPwc1).trans bq0
              have bp0 := keep_cell bwc1 bp0
              have bq1 := ((bcell bwc1).2 _ _ lPwc1).trans bq1
              have bp1 := keep_cell bwc1 bp1
              have bq2 := ((bcell bwc1).2 _ _ lPwc1).trans bq2
              have bp2 := keep_cell bwc1 bp2
              have bq3 := ((bcell bwc1).2 _ _ lPwc1).trans bq3
              have bp3 := keep_cell bwc1 bp3
              have Lt1 := owns_lt t1
              have Lt2 := owns_lt t2
              go_wp2_with fail
              refine hK.out _ _ ?_ (fun hH => ?_)
              · exact HS.out _ Bwc1
              clear hK K
              refine wpAnyH_ready (rs := [6]) (by kernel_rfl) (by simp) ?_
              refine AllReadyH.cons rfl (fun K hK => ?_) AllReadyH.nil
              go_simp
              refine hK.out _ _ ?_ (fun hH => ?_)
              · exact HS.out _ ((((Bwc1.setCell (p := ⟨wa.heap.size, 0, none⟩) hPA _).setCell (p := ⟨wa.heap.size, 1, none⟩) hPA _).setCell (p := ⟨wa.heap.size, 2, none⟩) hPA _).setCell (p := ⟨wa.heap.size, 3, none⟩) hPA _)
              clear hK K
              refine wpAnyH_done (by kernel_rfl) ?_ _
              refine NoPanic.normal ?_
              go_wp2_with fail
              go_meet
              exact ⟨wa.heap.size, _, _, _, _, _, _, rfl, ⟨hPA, by have := lt_of_cell bp0; simp; omega, by simp [go_sem, bp0, bp1, bp2, bp3], by simp [go_sem, bp0, bp1, bp2, bp3], by simp [go_sem, bp0, bp1, bp2, bp3], by simp [go_sem, bp0, bp1, bp2, bp3], by omega, by omega, owns_base (owns_cell (owns_cell (owns_cell (owns_cell t1 (p := wa.heap.size) (o := 0) (fun g hg => by have := Lt1 g hg; omega) _) (p := wa.heap.size) (o := 1) (fun g hg => by have := Lt1 g hg; omega) _) (p := wa.heap.size) (o := 2) (fun g hg => by have := Lt1 g hg; omega) _) (p := wa.heap.size) (o := 3) (fun g hg => by have := Lt1 g hg; omega) _) (by omega), owns_base (owns_cell (owns_cell (owns_cell (owns_cell t2 (p := wa.heap.size) (o := 0) (fun g hg => by have := Lt2 g hg; omega) _) (p := wa.heap.size) (o := 1) (fun g hg => by have := Lt2 g hg; omega) _) (p := wa.heap.size) (o := 2) (fun g hg => by have := Lt2 g hg; omega) _) (p := wa.heap.size) (o := 3) (fun g hg => by have := Lt2 g hg; omega) _) (by omega), fun g hg => by have := Lt1 g hg; omega, fun g hg => by have := Lt2 g hg; omega, ((((Bwc1.setCell (p := ⟨wa.heap.size, 0, none⟩) hPA _).setCell (p := ⟨wa.heap.size, 1, none⟩) hPA _).setCell (p := ⟨wa.heap.size, 2, none⟩) hPA _).setCell (p := ⟨wa.heap.size, 3, none⟩) hPA _)⟩, hdis⟩
          focus
            go_simp
            refine hK.out _ _ ?_ (fun hH => ?_)
            · exact HS.out _ (bd.alloc bd.size _)
            clear hK K
            have bal : Below w11d.heap.size w11d (w11d.alloc (.cells #[.int .i64 0, .int .i64 0, .slice none 0 0, .slice none 0 0] 41)) := (Below.refl _ _).alloc (Nat.le_refl _) _
            have hPA := bd.size
            have Bw11dA := bd.alloc bd.size (.cells #[.int .i64 0, .int .i64 0, .slice none 0 0, .slice none 0 0] 41)
            have bp0 : (w11d.alloc (.cells #[.int .i64 0, .int .i64 0, .slice none 0 0, .slice none 0 0] 41)).cell? ⟨w11d.heap.size, 0, none⟩ = some (.int .i64 0) := by simp [go_sem]
            have bq0 : (w11d.alloc (.cells #[.int .i64 0, .int .i64 0, .slice none 0 0, .slice none 0 0] 41)).frozen? ⟨w11d.heap.size, 0, none⟩ = false := by simp [go_sem]
            have bp1 : (w11d.alloc (.cells #[.int .i64 0, .int .i64 0, .slice none 0 0, .slice none 0 0] 41)).cell? ⟨w11d.heap.size, 1, none⟩ = some (.int .i64 0) := by simp [go_sem]
            have bq1 : (w11d.alloc (.cells #[.int .i64 0, .int .i64 0, .slice none 0 0, .slice none 0 0] 41)).frozen? ⟨w11d.heap.size, 1, none⟩ = false := by simp [go_sem]
            have bp2 : (w11d.alloc (.cells #[.int .i64 0, .int .i64 0, .slice none 0 0, .slice none 0 0] 41)).cell? ⟨w11d.heap.size, 2, none⟩ = some (.slice none 0 0) := by simp [go_sem]
            have bq2 : (w11d.alloc (.cells #[.int .i64 0, .int .i64 0, .slice none 0 0, .slice none 0 0] 41)).frozen? ⟨w11d.heap.size, 2, none⟩ = false := by simp [go_sem]
            have bp3 : (w11d.alloc (.cells #[.int .i64 0, .int .i64 0, .slice none 0 0, .slice none 0 0] 41)).cell? ⟨w11d.heap.size, 3, none⟩ = some (.slice none 0 0) := by simp [go_sem]
            have bq3 : (w11d.alloc (.cells #[.int .i64 0, .int .i64 0, .slice none 0 0, .slice none 0 0] 41)).frozen? ⟨w11d.heap.size, 3, none⟩ = false := by simp [go_sem]
            generalize w11d.alloc (.cells #[.int .i64 0, .int .i64 0, .slice none 0 0, .slice none 0 0] 41) = w11dA at *
            refine wpAnyH_ready (rs := [1]) (by kernel_rfl) (by simp) ?_
            refine AllReadyH.cons rfl (fun K hK => ?_) AllReadyH.nil
            go_simp
            refine (toWal_any a a' n m cap cap' ss ls _ (h.below (BASE.out _ Bw11dA)) (h'.below (BASE.out _ Bw11dA)) hn' hm').mono ?_
            rintro e wa ⟨g1, g2, rfl, o1, o2, hg, bwa⟩
            have zwa := bwa.size
            have Bwa := Bw11dA.trans (bwa.mono Bw11dA.size)
            have lPwa := lt_of_cell bp0
            have bq0 := ((bcell bwa).2 _ _ lPwa).trans bq0
            have bp0 := keep_cell bwa bp0
            have bq1 := ((bcell bwa).2 _ _ lPwa).trans bq1
            have bp1 := keep_cell bwa bp1
            have bq2 := ((bcell bwa).2 _ _ lPwa).trans bq2
            have bp2 := keep_cell bwa bp2
            have bq3 := ((bcell bwa).2 _ _ lPwa).trans bq3
            have bp3 := keep_cell bwa bp3
            have Lo1 := owns_lt o1
            have Lo2 := owns_lt o2
            go_wp2_with fail
            refine hK.out _ _ ?_ (fun hH => ?_)
            · exact HS.out _ Bwa
            clear hK K
            refine wpAnyH_ready (rs := [3]) (by kernel_rfl) (by simp) ?_
            refine AllReadyH.cons rfl (fun K hK => ?_) AllReadyH.nil
            go_simp
            refine (toRec_any kd tx ky hd ol hs nw _).mono ?_
            rintro e wb ⟨rfl, bwb⟩
            have zwb := bwb.size
            have Bwb := Bwa.trans (bwb.mono Bwa.size)
            have o1 := owns_below o1 bwb
            have o2 := owns_below o2 bwb
            have lPwb := lt_of_cell bp0
            have bq0 := ((bcell bwb).2 _ _ lPwb).trans bq0
            have bp0 := keep_cell bwb bp0
            have bq1 := ((bcell bwb).2 _ _ lPwb).trans bq1
            have bp1 := keep_cell bwb bp1
            have bq2 := ((bcell bwb).2 _ _ lPwb).trans bq2
            have bp2 := keep_cell bwb bp2
            have bq3 := ((bcell bwb).2 _ _ lPwb).trans bq3
            have bp3 := keep_cell bwb bp3
            go_wp2_with fail
            refine hK.out _ _ ?_ (fun hH => ?_)
            · exact HS.out _ Bwb
            clear hK K
            refine wpAnyH_ready (rs := [4]) (by kernel_rfl) (by simp) ?_
            refine AllReadyH.cons rfl (fun K hK => ?_) AllReadyH.nil
            go_simp
            refine (II _ ⟨g1, 0, none⟩ ⟨g2, 0, none⟩ (owns_bytes o1) (owns_bytes o2)).mono ?_
            rintro e wc1 ⟨a2, k2, c2, e2, j2, f2, rfl, hk, hj, t1, t2, hdis, bwc1⟩
            have zwc1 := bwc1.size
            have Bwc1 := Bwb.trans (bwc1.mono Bwb.size)
            have o1 := owns_below o1 bwc1
            have o2 := owns_below o2 bwc1
            have lPwc1 := lt_of_cell bp0
            have bq0 := ((bcell bwc1).2 _ _ lPwc1).trans bq0
            have bp0 := keep_cell bwc1 bp0
            have bq1 := ((bcell bwc1).2 _ _ lPwc1).trans bq1
            have bp1 := keep_cell bwc1 bp1
            have bq2 := ((bcell bwc1).2 _ _ lPwc1).trans bq2
            have bp2 := keep_cell bwc1 bp2
            have bq3 := ((bcell bwc1).2 _ _ lPwc1).trans bq3
            have bp3 := keep_cell bwc1 bp3
            have Lt1 := owns_lt t1
            have Lt2 := owns_lt t2
            go_wp2_with fail
            refine hK.out _ _ ?_ (fun hH => ?_)
            · exact HS.out _ Bwc1
            clear hK K
            refine wpAnyH_ready (rs := [6]) (by kernel_rfl) (by simp) ?_
            refine AllReadyH.cons rfl (fun K hK => ?_) AllReadyH.nil
            go_simp
            refine hK.out _ _ ?_ (fun hH => ?_)
            · exact HS.out _ ((((Bwc1.setCell (p := ⟨w11d.heap.size, 0, none⟩) hPA _).setCell (p := ⟨w11d.heap.size, 1, none⟩) hPA _).setCell (p := ⟨w11d.heap.size, 2, none⟩) hPA _).setCell (p := ⟨w11d.heap.size, 3, none⟩) hPA _)
            clear hK K
            refine wpAnyH_done (by kernel_rfl) ?_ _
            refine NoPanic.normal ?_
            go_wp2_with fail
            go_meet
            exact ⟨w11d.heap.size, _, _, _, _, _, _, rfl, ⟨hPA, by have := lt_of_cell bp0; simp; omega, by simp [go_sem, bp0, bp1, bp2, bp3], by simp [go_sem, bp0, bp1, bp2, bp3], by simp [go_sem, bp0, bp1, bp2, bp3], by simp [go_sem, bp0, bp1, bp2, bp3], by omega, by omega, owns_base (owns_cell (owns_cell (owns_cell (owns_cell t1 (p := w11d.heap.size) (o := 0) (fun g hg => by have := Lt1 g hg; omega) _) (p := w11d.heap.size) (o := 1) (fun g hg => by have := Lt1 g hg; omega) _) (p := w11d.heap.size) (o := 2) (fun g hg => by have := Lt1 g hg; omega) _) (p := w11d.heap.size) (o := 3) (fun g hg => by have := Lt1 g hg; omega) _) (by omega), owns_base (owns_cell (owns_cell (owns_cell (owns_cell t2 (p := w11d.heap.size) (o := 0) (fun g hg => by have := Lt2 g hg; omega) _) (p := w11d.heap.size) (o := 1) (fun g hg => by have := Lt2 g hg; omega) _) (p := w11d.heap.size) (o := 2) (fun g hg => by have := Lt2 g hg; omega) _) (p := w11d.heap.size) (o := 3) (fun g hg => by have := Lt2 g hg; omega) _) (by omega), fun g hg => by have := Lt1 g hg; omega, fun g hg => by have := Lt2 g hg; omega, ((((Bwc1.setCell (p := ⟨w11d.heap.size, 0, none⟩) hPA _).setCell (p := ⟨w11d.heap.size, 1, none⟩) hPA _).setCell (p := ⟨w11d.heap.size, 2, none⟩) hPA _).setCell (p := ⟨w11d.heap.size, 3, none⟩) hPA _)⟩, hdis⟩
        case rest =>
          obtain ⟨w13, hwn⟩ : ∃ x : World, x = wc := ⟨_, rfl⟩
          subst hwn
          obtain ⟨P12, ia, ik, ic, ja, jk, jc, rfl, ⟨hP120, hP121, k0, k1, k2, k3, hik, hjk, i, j, ni, nj, b13⟩, _⟩ := hcut
          have s0 := keep_cell b13 s0
          have s1 := keep_cell b13 s1
          have s2 := keep_cell b13 s2
          have s3 := keep_cell b13 s3
          have y0 := keep_cell b13 y0
          have y1 := keep_cell b13 y1
          have y2 := keep_cell b13 y2
          have y3 := keep_cell b13 y3
          have s := owns_below s b13
          have v := owns_below v b13
          have o5 := owns_below o5 b13
          have q5 := owns_below q5 b13
          have b13A := b11.trans (b13.mono b11.size)
          have HM : ik = ok := by have q2 := s.1; have q4 := i.1; omega
          subst HM
          have HN : jk = qk := by have q2 := v.1; have q4 := j.1; omega
          subst HN
          clear b13 b11
          go_wp2_with fail
          refine (eqWalResult_same _ _ ia ja sa va ik jk ic jc sc vc fs fl _ (owns_bytes i) (owns_bytes j) (owns_bytes s) (owns_bytes v) (by omega) (by omega)).mono ?_
          rintro e w14 ⟨rfl, b14⟩
          have y0 := keep_cell b14 y0
          have y1 := keep_cell b14 y1
          have y2 := keep_cell b14 y2
          have y3 := keep_cell b14 y3
          have o5 := owns_below o5 b14
          have q5 := owns_below q5 b14
          have b14A := b13A.trans (b14.mono b13A.size)
          clear b14 b13A
          go_wp2_with fail
          refine (heldWalResult_any _ _ oa qa ik jk oc qc _ (owns_bytes o5) (owns_bytes q5) (by omega) (by omega)).mono ?_
          rw [← htt]
          rintro e w15 ⟨rfl, b15⟩
          go_wp2
          go_ret
          exact ⟨rfl, b14A.trans (b15.mono b14A.size)⟩
  · go_enter Try.func6, Try.ntmps6
    go_wp2_with fail
    refine (szWal_big a a' n m cap cap' _ hsm hn hm).mono ?_
    rintro e w0 ⟨rfl, bz⟩
    go_wp2
    go_ret
    exact ⟨rfl, below_two bz⟩
end Go.Proofs.Ytapahapjajijeaa
