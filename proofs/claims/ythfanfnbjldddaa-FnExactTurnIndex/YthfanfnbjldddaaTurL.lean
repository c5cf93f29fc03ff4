
/- The law FnExactTurnIndex. -/
import Derived.Test.YthfanfnbjldddaaIxV
import Derived.Deep.DeepCutAuto
namespace Go.Proofs.Ythfanfnbjldddaa
open Go.RowKit

theorem owns_otherB {w : World} {base : Nat} {e : TypeId} {size : Nat} {v : Value} {n : Nat} {xs : List Value} (h : w.ownsRow base e size v n xs) {P o : Nat} (hP : ∀ g, v.ownBlock = some g → g ≠ P) (u : Value) : (w.setCell ⟨P, o, none⟩ u).ownsRow base e size v n xs := by
  refine ⟨h.1, ?_⟩
  rcases h.2 with h' | ⟨g, cap, cur, hv, hb, hh, h1, h2, h3, h4⟩
  · exact .inl h'
  · refine .inr ⟨g, cap, cur, hv, hb, ?_, h1, h2, h3, h4⟩
    exact (Below.heap_setCell _ _ _ _ (by show g ≠ P; exact hP g (by rw [hv]; rfl))).trans hh
/-- A result in its box, at any place. -/
def TAt (wx A : World) (P : Nat) (c : Int) (a2 : Option Addr) (m2 c2 : Nat) (rs : List Ch.Hold) : Prop :=
  A.heap.size ≤ P ∧ P < wx.heap.size ∧ m2 ≤ 1048576 ∧ wx.cell? ⟨P, 0, none⟩ = some (.int .i64 c) ∧ wx.cell? ⟨P, 1, none⟩ = some (.slice a2 m2 c2) ∧ wx.ownsRow A.heap.size 60 2 (.slice a2 m2 c2) m2 (hcells rs) ∧ (∀ g, (Value.slice a2 m2 c2).ownBlock = some g → g ≠ P) ∧ Below A.heap.size A wx

set_option linter.unusedSimpArgs false in
set_option maxRecDepth 100000 in
set_option maxHeartbeats 16000000 in
theorem lawTurn_any (a : Option Addr) (n cap : Nat) (key ok : Int) (oh : Bool) (ov nk : Int) (nh : Bool) (nv : Int) (ps : List Ch.Hold) (w : World) (h : CellsAt w a (n * 2) (hcells ps)) (hm : n ≤ 9223372036854775807) :
    Calls Try.prog 8 #[.slice a n cap, .int .i64 key, .agg #[.int .i64 ok, .bool oh, .int .i64 ov], .agg #[.int .i64 nk, .bool nh, .int .i64 nv]] w fun e w' => e = .returned (.bool true) ∧ Below w.heap.size w w' := by
  have bw0 : Below w.heap.size w ((w.alloc (.cells #[.int .i64 ok, .bool oh, .int .i64 ov] 79)).alloc (.cells #[.int .i64 nk, .bool nh, .int .i64 nv] 79)) := ((Below.refl _ _).alloc (Nat.le_refl _) _).alloc (by simp) _
  obtain ⟨r0, r1, r2⟩ := row3' (block_below ((Below.refl _ _).alloc (Nat.le_refl _) (.cells #[.int .i64 nk, .bool nh, .int .i64 nv] 79)) (heap_alloc_new w (.cells #[.int .i64 ok, .bool oh, .int .i64 ov] 79)))
  obtain ⟨s0, s1, s2⟩ := row3' (heap_alloc_new (w.alloc (.cells #[.int .i64 ok, .bool oh, .int .i64 ov] 79)) (.cells #[.int .i64 nk, .bool nh, .int .i64 nv] 79))
  rw [show (w.alloc (.cells #[.int .i64 ok, .bool oh, .int .i64 ov] 79)).heap.size = w.heap.size + 1 by simp] at s0 s1 s2
  by_cases hbig : 1048576 < n
  · have I0 := fun W => szPairs_any a n cap 1048576 W (Nat.le_refl _) hm
    rw [if_neg (by omega)] at I0
    go_enter Try.func8, Try.ntmps8
    go_wp2_with fail
    refine (I0 _).mono ?_
    rintro e w1 ⟨rfl, rfl⟩
    go_wp2
    go_ret
    exact ⟨rfl, bw0⟩
  · have hs : n ≤ 1048576 := by omega
    have I0 := fun W => szPairs_any a n cap 1048576 W (Nat.le_refl _) hm
    rw [if_pos hs] at I0
    have hl0 : ¬ ((1048576 : Nat) : Int) - (n : Int) < 0 := by omega
    clear hbig
    have SI := fun (W : World) (A : Option Addr) (hW : CellsAt W A (n * 2) (hcells ps)) => specTurn_any A n n key ok oh ov nk nh nv ps W hW hs
    have II := fun (W : World) (A : Option Addr) (hW : CellsAt W A (n * 2) (hcells ps)) => implTurn_any A n n key ok oh ov nk nh nv ps W hW hs
    generalize (Ch.turnR ps key ⟨ok, oh, ov⟩ ⟨nk, nh, nv⟩).1 = c at SI II
    generalize (Ch.turnR ps key ⟨ok, oh, ov⟩ ⟨nk, nh, nv⟩).2 = rs at SI II
    generalize ((1048576 : Nat) : Int) - (n : Int) = L at *
    go_enter Try.func8, Try.ntmps8
    go_wp2_with fail
    refine (I0 _).mono ?_
    rintro e w0' ⟨rfl, hw0⟩
    obtain rfl := hw0.symm
    clear I0
    generalize (w.alloc (.cells #[.int .i64 ok, .bool oh, .int .i64 ov] 79)).alloc (.cells #[.int .i64 nk, .bool nh, .int .i64 nv] 79) = w0 at *
    have h0 := h.below bw0
    have zw := bw0.size
    go_upto_region 5 with fail
    go_cut [10] (fun s wx => ∃ P a2 m2 c2, s = .pointer (some ⟨P, 0, none⟩) ∧ TAt wx w0 P c a2 m2 c2 rs)
    case first =>
      refine wp_region_noPanic ?_
      refine wp_region_held_drew (S := fun W' => W'.cell? ⟨w.heap.size, 0, none⟩ = some (.int .i64 ok) ∧ W'.cell? ⟨w.heap.size, 1, none⟩ = some (.bool oh) ∧ W'.cell? ⟨w.heap.size, 2, none⟩ = some (.int .i64 ov) ∧ W'.cell? ⟨w.heap.size + 1, 0, none⟩ = some (.int .i64 nk) ∧ W'.cell? ⟨w.heap.size + 1, 1, none⟩ = some (.bool nh) ∧ W'.cell? ⟨w.heap.size + 1, 2, none⟩ = some (.int .i64 nv)) (by kernel_rfl) (⟨r0, r1, r2, s0, s1, s2⟩) (fun hH => ?_)
      refine hTake (i := 0) (v := ?_) rfl (by kernel_rfl) (by kernel_rfl) (by kernel_rfl) (by rfl) ?_ hH ?_
      rotate_left
      · intro W hW; (try dsimp only at hW); go_simp <;> with_reducible rfl
      simp only [Act.put, List.setIfInBounds_toArray, List.set_cons_zero, List.set_cons_succ]
      refine hTake (i := 2) (v := ?_) rfl (by kernel_rfl) (by kernel_rfl) (by kernel_rfl) (by rfl) ?_ hH ?_
      rotate_left
      · intro W hW; (try dsimp only at hW); go_simp <;> with_reducible rfl
      simp only [Act.put, List.setIfInBounds_toArray, List.set_cons_zero, List.set_cons_succ]
      refine hTake (i := 3) (v := ?_) rfl (by kernel_rfl) (by kernel_rfl) (by kernel_rfl) (by rfl) ?_ hH ?_
      rotate_left
      · intro W hW; (try dsimp only at hW); go_simp <;> with_reducible rfl
      simp only [Act.put, List.setIfInBounds_toArray, List.set_cons_zero, List.set_cons_succ]
      refine hTake (i := 5) (v := ?_) rfl (by kernel_rfl) (by kernel_rfl) (by kernel_rfl) (by rfl) ?_ hH ?_
      rotate_left
      · intro W hW; (try dsimp only at hW); go_simp <;> with_reducible rfl
      simp only [Act.put, List.setIfInBounds_toArray, List.set_cons_zero, List.set_cons_succ]
      have HS : Hid (∀ W', Below w0.heap.size w0 W' → W'.cell? ⟨w.heap.size, 0, none⟩ = some (.int .i64 ok) ∧ W'.cell? ⟨w.heap.size, 1, none⟩ = some (.bool oh) ∧ W'.cell? ⟨w.heap.size, 2, none⟩ = some (.int .i64 ov) ∧ W'.cell? ⟨w.heap.size + 1, 0, none⟩ = some (.int .i64 nk) ∧ W'.cell? ⟨w.heap.size + 1, 1, none⟩ = some (.bool nh) ∧ W'.cell? ⟨w.heap.size + 1, 2, none⟩ = some (.int .i64 nv)) := fun W' hW => ⟨keep_cell hW r0, keep_cell hW r1, keep_cell hW r2, keep_cell hW s0, keep_cell hW s1, keep_cell hW s2⟩
      have bd : Below w0.heap.size w0 w0.drew := (Below.refl _ _).drew
      have zd := bd.size
      generalize w0.drew = wd at *
      refine wpAnyH_ready (rs := [1, 8]) (by kernel_rfl) (by simp) ?_
      refine AllReadyH.cons rfl (fun K hK => ?_) (AllReadyH.cons rfl (fun K hK => ?_) AllReadyH.nil)
      focus
        go_simp
        refine (toPairS_any a n cap ps wd (h0.below bd) hs).mono ?_
        rintro e v1 ⟨rfl, o1, bv1⟩
        have Bv1 := bd.trans (bv1.mono bd.size)
        have zv1 := bv1.size
        go_wp2_with fail
        refine hK.out _ _ ?_ (fun hH => ?_)
        · exact HS.out _ Bv1
        clear hK K
        refine wpAnyH_ready (rs := [4, 8]) (by kernel_rfl) (by simp) ?_
        refine AllReadyH.cons rfl (fun K hK => ?_) (AllReadyH.cons rfl (fun K hK => ?_) AllReadyH.nil)
        focus
          go_simp
          refine (toBef_any ok oh ov v1).mono ?_
          rintro e v2 ⟨rfl, bv2⟩
          have Bv2 := Bv1.trans (bv2.mono Bv1.size)
          have zv2 := bv2.size
          have o1 := owns_below o1 bv2
          go_wp2_with fail
          refine hK.out _ _ ?_ (fun hH => ?_)
          · exact HS.out _ Bv2
          clear hK K
          refine wpAnyH_ready (rs := [6, 8]) (by kernel_rfl) (by simp) ?_
          refine AllReadyH.cons rfl (fun K hK => ?_) (AllReadyH.cons rfl (fun K hK => ?_) AllReadyH.nil)
          focus
            go_simp
            refine (toBef_any nk nh nv v2).mono ?_
            rintro e v3 ⟨rfl, bv3⟩
            have Bv3 := Bv2.trans (bv3.mono Bv2.size)
            have zv3 := bv3.size
            have o1 := owns_below o1 bv3
            go_wp2_with fail
            refine hK.out _ _ ?_ (fun hH => ?_)
            · exact HS.out _ Bv3
            clear hK K
            refine wpAnyH_ready (rs := [7, 8]) (by kernel_rfl) (by simp) ?_
            refine AllReadyH.cons rfl (fun K hK => ?_) (AllReadyH.cons rfl (fun K hK => ?_) AllReadyH.nil)
            focus
              go_simp
              refine (SI v3 _ (owns_cells o1)).mono ?_
              rintro e v4 ⟨a2, m2, c2, rfl, hm2, o2, bv4⟩
              have L2 := owns_lt o2
              have Bv4 := Bv3.trans (bv4.mono Bv3.size)
              have zv4 := bv4.size
              have o1 := owns_below o1 bv4
              go_wp2_with fail
              refine hK.out _ _ ?_ (fun hH => ?_)
              · exact HS.out _ Bv4
              clear hK K
              refine wpAnyH_ready (rs := [8]) (by kernel_rfl) (by simp) ?_
              refine AllReadyH.cons rfl (fun K hK => ?_) AllReadyH.nil
              go_simp
              refine hK.out _ _ ?_ (fun hH => ?_)
              · exact HS.out _ (Bv4.alloc Bv4.size _)
              clear hK K
              have bal : Below v4.heap.size v4 (v4.alloc (.cells #[.int .i64 0, .slice none 0 0] 71)) := (Below.refl _ _).alloc (Nat.le_refl _) _
              have hPA := Bv4.size
              have Bx5W := Bv4.alloc Bv4.size (.cells #[.int .i64 0, .slice none 0 0] 71)
              have HZ : Hid ((v4.alloc (.cells #[.int .i64 0, .slice none 0 0] 71)).heap.size = v4.heap.size + 1) := by show _ = _; simp
              have bp0 : (v4.alloc (.cells #[.int .i64 0, .slice none 0 0] 71)).cell? ⟨v4.heap.size, 0, none⟩ = some (.int .i64 0) := by simp [go_sem]
              have bq0 : (v4.alloc (.cells #[.int .i64 0, .slice none 0 0] 71)).frozen? ⟨v4.heap.size, 0, none⟩ = false := by simp [go_sem]
              have bp1 : (v4.alloc (.cells #[.int .i64 0, .slice none 0 0] 71)).cell? ⟨v4.heap.size, 1, none⟩ = some (.slice none 0 0) := by simp [go_sem]
              have bq1 : (v4.alloc (.cells #[.int .i64 0, .slice none 0 0] 71)).frozen? ⟨v4.heap.size, 1, none⟩ = false := by simp [go_sem]
              have o2 := owns_below o2 bal
              generalize v4.alloc (.cells #[.int .i64 0, .slice none 0 0] 71) = x5W at *
              have lPz := lt_of_cell bp0
              refine wpAnyH_ready (rs := [9]) (by kernel_rfl) (by simp) ?_
              refine AllReadyH.cons rfl (fun K hK => ?_) AllReadyH.nil
              go_simp
              refine hK.out _ _ ?_ (fun hH => ?_)
              · exact HS.out _ ((Bx5W.setCell (p := ⟨v4.heap.size, 0, none⟩) hPA (.int .i64 c)).setCell (p := ⟨v4.heap.size, 1, none⟩) hPA (.slice a2 m2 c2))
              clear hK K
              refine wpAnyH_done (by kernel_rfl) ?_ _
              refine NoPanic.normal ?_
              go_wp2_with fail
              go_meet
              have zal := HZ.out
              refine ⟨v4.heap.size, a2, m2, c2, rfl, hPA, by simp [World.setCell] <;> omega, hm2, by simp [go_sem, bp0, bp1], by simp [go_sem, bp0, bp1], ?_, fun g hg => by have := L2 g hg; omega, ((Bx5W.setCell (p := ⟨v4.heap.size, 0, none⟩) hPA (.int .i64 c)).setCell (p := ⟨v4.heap.size, 1, none⟩) hPA (.slice a2 m2 c2))⟩
              exact owns_otherB (owns_otherB (owns_base o2 (by omega)) (fun g hg => by have := L2 g hg; omega) _) (fun g hg => by have := L2 g hg; omega) _
            focus
              go_simp
              refine hK.out _ _ ?_ (fun hH => ?_)
              · exact HS.out _ (Bv3.alloc Bv3.size _)
              clear hK K
              have bal : Below v3.heap.size v3 (v3.alloc (.cells #[.int .i64 0, .slice none 0 0] 71)) := (Below.refl _ _).alloc (Nat.le_refl _) _
              have hPA := Bv3.size
              have Bx6W := Bv3.alloc Bv3.size (.cells #[.int .i64 0, .slice none 0 0] 71)
              have HZ : Hid ((v3.alloc (.cells #[.int .i64 0, .slice none 0 0] 71)).heap.size = v3.heap.size + 1) := by show _ = _; simp
              have bp0 : (v3.alloc (.cells #[.int .i64 0, .slice none 0 0] 71)).cell? ⟨v3.heap.size, 0, none⟩ = some (.int .i64 0) := by simp [go_sem]
              have bq0 : (v3.alloc (.cells #[.int .i64 0, .slice none 0 0] 71)).frozen? ⟨v3.heap.size, 0, none⟩ = false := by simp [go_sem]
              have bp1 : (v3.alloc (.cells #[.int .i64 0, .slice none 0 0] 71)).cell? ⟨v3.heap.size, 1, none⟩ = some (.slice none 0 0) := by simp [go_sem]
              have bq1 : (v3.alloc (.cells #[.int .i64 0, .slice none 0 0] 71)).frozen? ⟨v3.heap.size, 1, none⟩ = false := by simp [go_sem]
              have o1 := owns_below o1 bal
              generalize v3.alloc (.cells #[.int .i64 0, .slice none 0 0] 71) = x6W at *
              refine wpAnyH_ready (rs := [7]) (by kernel_rfl) (by simp) ?_
              refine AllReadyH.cons rfl (fun K hK => ?_) AllReadyH.nil
              go_simp
              refine (SI x6W _ (owns_cells o1)).mono ?_
              rintro e v7 ⟨a2, m2, c2, rfl, hm2, o2, bv7⟩
              have L2 := owns_lt o2
              have Bv7 := Bx6W.trans (bv7.mono Bx6W.size)
              have zv7 := bv7.size
              have o1 := owns_below o1 bv7
              have lPv7 := lt_of_cell bp0
              have bq0 := ((bcell bv7).2 _ _ lPv7).trans bq0
              have bq1 := ((bcell bv7).2 _ _ lPv7).trans bq1
              have bp0 := keep_cell bv7 bp0
              have bp1 := keep_cell bv7 bp1
              go_wp2_with fail
              refine hK.out _ _ ?_ (fun hH => ?_)
              · exact HS.out _ Bv7
              clear hK K
              have lPz := lt_of_cell bp0
              refine wpAnyH_ready (rs := [9]) (by kernel_rfl) (by simp) ?_
              refine AllReadyH.cons rfl (fun K hK => ?_) AllReadyH.nil
              go_simp
              refine hK.out _ _ ?_ (fun hH => ?_)
              · exact HS.out _ ((Bv7.setCell (p := ⟨v3.heap.size, 0, none⟩) hPA (.int .i64 c)).setCell (p := ⟨v3.heap.size, 1, none⟩) hPA (.slice a2 m2 c2))
              clear hK K
              refine wpAnyH_done (by kernel_rfl) ?_ _
              refine NoPanic.normal ?_
              go_wp2_with fail
              go_meet
              have zal := HZ.out
              refine ⟨v3.heap.size, a2, m2, c2, rfl, hPA, by simp [World.setCell] <;> omega, hm2, by simp [go_sem, bp0, bp1], by simp [go_sem, bp0, bp1], ?_, fun g hg => by have := L2 g hg; omega, ((Bv7.setCell (p := ⟨v3.heap.size, 0, none⟩) hPA (.int .i64 c)).setCell (p := ⟨v3.heap.size, 1, none⟩) hPA (.slice a2 m2 c2))⟩
              exact owns_otherB (owns_otherB (owns_base o2 (by omega)) (fun g hg => by have := L2 g hg; omega) _) (fun g hg => by have := L2 g hg; omega) _
          focus
            go_simp
            refine hK.out _ _ ?_ (fun hH => ?_)
            · exact HS.out _ (Bv2.alloc Bv2.size _)
            clear hK K
            have bal : Below v2.heap.size v2 (v2.alloc (.cells #[.int .i64 0, .slice none 0 0] 71)) := (Below.refl _ _).alloc (Nat.le_refl _) _
            have hPA := Bv2.size
            have Bx8W := Bv2.alloc Bv2.size (.cells #[.int .i64 0, .slice none 0 0] 71)
            have HZ : Hid ((v2.alloc (.cells #[.int .i64 0, .slice none 0 0] 71)).heap.size = v2.heap.size + 1) := by show _ = _; simp
            have bp0 : (v2.alloc (.cells #[.int .i64 0, .slice none 0 0] 71)).cell? ⟨v2.heap.size, 0, none⟩ = some (.int .i64 0) := by simp [go_sem]
            have bq0 : (v2.alloc (.cells #[.int .i64 0, .slice none 0 0] 71)).frozen? ⟨v2.heap.size, 0, none⟩ = false := by simp [go_sem]
            have bp1 : (v2.alloc (.cells #[.int .i64 0, .slice none 0 0] 71)).cell? ⟨v2.heap.size, 1, none⟩ = some (.slice none 0 0) := by simp [go_sem]
            have bq1 : (v2.alloc (.cells #[.int .i64 0, .slice none 0 0] 71)).frozen? ⟨v2.heap.size, 1, none⟩ = false := by simp [go_sem]
            have o1 := owns_below o1 bal
            generalize v2.alloc (.cells #[.int .i64 0, .slice none 0 0] 71) = x8W at *
            refine wpAnyH_ready (rs := [6]) (by kernel_rfl) (by simp) ?_
            refine AllReadyH.cons rfl (fun K hK => ?_) AllReadyH.nil
            go_simp
            refine (toBef_any nk nh nv x8W).mono ?_
            rintro e v9 ⟨rfl, bv9⟩
            have Bv9 := Bx8W.trans (bv9.mono Bx8W.size)
            have zv9 := bv9.size
            have o1 := owns_below o1 bv9
            have lPv9 := lt_of_cell bp0
            have bq0 := ((bcell bv9).2 _ _ lPv9).trans bq0
            have bq1 := ((bcell bv9).2 _ _ lPv9).trans bq1
            have bp0 := keep_cell bv9 bp0
            have bp1 := keep_cell bv9 bp1
            go_wp2_with fail
            refine hK.out _ _ ?_ (fun hH => ?_)
            · exact HS.out _ Bv9
            clear hK K
            refine wpAnyH_ready (rs := [7]) (by kernel_rfl) (by simp) ?_
            refine AllReadyH.cons rfl (fun K hK => ?_) AllReadyH.nil
            go_simp
            refine (SI v9 _ (owns_cells o1)).mono ?_
            rintro e v10 ⟨a2, m2, c2, rfl, hm2, o2, bv10⟩
            have L2 := owns_lt o2
            have Bv10 := Bv9.trans (bv10.mono Bv9.size)
            have zv10 := bv10.size
            have o1 := owns_below o1 bv10
            have lPv10 := lt_of_cell bp0
            have bq0 := ((bcell bv10).2 _ _ lPv10).trans bq0
            have bq1 := ((bcell bv10).2 _ _ lPv10).trans bq1
            have bp0 := keep_cell bv10 bp0
            have bp1 := keep_cell bv10 bp1
            go_wp2_with fail
            refine hK.out _ _ ?_ (fun hH => ?_)
            · exact HS.out _ Bv10
            clear hK K
            have lPz := lt_of_cell bp0
            refine wpAnyH_ready (rs := [9]) (by kernel_rfl) (by simp) ?_
            refine AllReadyH.cons rfl (fun K hK => ?_) AllReadyH.nil
            go_simp
            refine hK.out _ _ ?_ (fun hH => ?_)
            · exact HS.out _ ((Bv10.setCell (p := ⟨v2.heap.size, 0, none⟩) hPA (.int .i64 c)).setCell (p := ⟨v2.heap.size, 1, none⟩) hPA (.slice a2 m2 c2))
            clear hK K
            refine wpAnyH_done (by kernel_rfl) ?_ _
            refine NoPanic.normal ?_
            go_wp2_with fail
            go_meet
            have zal := HZ.out
            refine ⟨v2.heap.size, a2, m2, c2, rfl, hPA, by simp [World.setCell] <;> omega, hm2, by simp [go_sem, bp0, bp1], by simp [go_sem, bp0, bp1], ?_, fun g hg => by have := L2 g hg; omega, ((Bv10.setCell (p := ⟨v2.heap.size, 0, none⟩) hPA (.int .i64 c)).setCell (p := ⟨v2.heap.size, 1, none⟩) hPA (.slice a2 m2 c2))⟩
            exact owns_otherB (owns_otherB (owns_base o2 (by omega)) (fun g hg => by have := L2 g hg; omega) _) (fun g hg => by have := L2 g hg; omega) _
        focus
          go_simp
          refine hK.out _ _ ?_ (fun hH => ?_)
          · exact HS.out _ (Bv1.alloc Bv1.size _)
          clear hK K
          have bal : Below v1.heap.size v1 (v1.alloc (.cells #[.int .i64 0, .slice none 0 0] 71)) := (Below.refl _ _).alloc (Nat.le_refl _) _
          have hPA := Bv1.size
          have Bx11W := Bv1.alloc Bv1.size (.cells #[.int .i64 0, .slice none 0 0] 71)
          have HZ : Hid ((v1.alloc (.cells #[.int .i64 0, .slice none 0 0] 71)).heap.size = v1.heap.size + 1) := by show _ = _; simp
          have bp0 : (v1.alloc (.cells #[.int .i64 0, .slice none 0 0] 71)).cell? ⟨v1.heap.size, 0, none⟩ = some (.int .i64 0) := by simp [go_sem]
          have bq0 : (v1.alloc (.cells #[.int .i64 0, .slice none 0 0] 71)).frozen? ⟨v1.heap.size, 0, none⟩ = false := by simp [go_sem]
          have bp1 : (v1.alloc (.cells #[.int .i64 0, .slice none 0 0] 71)).cell? ⟨v1.heap.size, 1, none⟩ = some (.slice none 0 0) := by simp [go_sem]
          have bq1 : (v1.alloc (.cells #[.int .i64 0, .slice none 0 0] 71)).frozen? ⟨v1.heap.size, 1, none⟩ = false := by simp [go_sem]
          have o1 := owns_below o1 bal
          generalize v1.alloc (.cells #[.int .i64 0, .slice none 0 0] 71) = x11W at *
          refine wpAnyH_ready (rs := [4]) (by kernel_rfl) (by simp) ?_
          refine AllReadyH.cons rfl (fun K hK => ?_) AllReadyH.nil
          go_simp
          refine (toBef_any ok oh ov x11W).mono ?_
          rintro e v12 ⟨rfl, bv12⟩
          have Bv12 := Bx11W.trans (bv12.mono Bx11W.size)
          have zv12 := bv12.size
          have o1 := owns_below o1 bv12
          have lPv12 := lt_of_cell bp0
          have bq0 := ((bcell bv12).2 _ _ lPv12).trans bq0
          have bq1 := ((bcell bv12).2 _ _ lPv12).trans bq1
          have bp0 := keep_cell bv12 bp0
          have bp1 := keep_cell bv12 bp1
          go_wp2_with fail
          refine hK.out _ _ ?_ (fun hH => ?_)
          · exact HS.out _ Bv12
          clear hK K
          refine wpAnyH_ready (rs := [6]) (by kernel_rfl) (by simp) ?_
          refine AllReadyH.cons rfl (fun K hK => ?_) AllReadyH.nil
          go_simp
          refine (toBef_any nk nh nv v12).mono ?_
          rintro e v13 ⟨rfl, bv13⟩
          have Bv13 := Bv12.trans (bv13.mono Bv12.size)
          have zv13 := bv13.size
          have o1 := owns_below o1 bv13
          have lPv13 := lt_of_cell bp0
          have bq0 := ((bcell bv13).2 _ _ lPv13).trans bq0
          have bq1 := ((bcell bv13).2 _ _ lPv13).trans bq1
          have bp0 := keep_cell bv13 bp0
          have bp1 := keep_cell bv13 bp1
          go_wp2_with fail
          refine hK.out _ _ ?_ (fun hH => ?_)
          · exact HS.out _ Bv13
          clear hK K
          refine wpAnyH_ready (rs := [7]) (by kernel_rfl) (by simp) ?_
          refine AllReadyH.cons rfl (fun K hK => ?_) AllReadyH.nil
          go_simp
          refine (SI v13 _ (owns_cells o1)).mono ?_
          rintro e v14 ⟨a2, m2, c2, rfl, hm2, o2, bv14⟩
          have L2 := owns_lt o2
          have Bv14 := Bv13.trans (bv14.mono Bv13.size)
          have zv14 := bv14.size
          have o1 := owns_below o1 bv14
          have lPv14 := lt_of_cell bp0
          have bq0 := ((bcell bv14).2 _ _ lPv14).trans bq0
          have bq1 := ((bcell bv14).2 _ _ lPv14).trans bq1
          have bp0 := keep_cell bv14 bp0
          have bp1 := keep_cell bv14 bp1
          go_wp2_with fail
          refine hK.out _ _ ?_ (fun hH => ?_)
          · exact HS.out _ Bv14
          clear hK K
          have lPz := lt_of_cell bp0
          refine wpAnyH_ready (rs := [9]) (by kernel_rfl) (by simp) ?_
          refine AllReadyH.cons rfl (fun K hK => ?_) AllReadyH.nil
          go_simp
          refine hK.out _ _ ?_ (fun hH => ?_)
          · exact HS.out _ ((Bv14.setCell (p := ⟨v1.heap.size, 0, none⟩) hPA (.int .i64 c)).setCell (p := ⟨v1.heap.size, 1, none⟩) hPA (.slice a2 m2 c2))
          clear hK K
          refine wpAnyH_done (by kernel_rfl) ?_ _
          refine NoPanic.normal ?_
          go_wp2_with fail
          go_meet
          have zal := HZ.out
          refine ⟨v1.heap.size, a2, m2, c2, rfl, hPA, by simp [World.setCell] <;> omega, hm2, by simp [go_sem, bp0, bp1], by simp [go_sem, bp0, bp1], ?_, fun g hg => by have := L2 g hg; omega, ((Bv14.setCell (p := ⟨v1.heap.size, 0, none⟩) hPA (.int .i64 c)).setCell (p := ⟨v1.heap.size, 1, none⟩) hPA (.slice a2 m2 c2))⟩
          exact owns_otherB (owns_otherB (owns_base o2 (by omega)) (fun g hg => by have := L2 g hg; omega) _) (fun g hg => by have := L2 g hg; omega) _
      focus
        go_simp
        refine hK.out _ _ ?_ (fun hH => ?_)
        · exact HS.out _ (bd.alloc bd.size _)
        clear hK K
        have bal : Below wd.heap.size wd (wd.alloc (.cells #[.int .i64 0, .slice none 0 0] 71)) := (Below.refl _ _).alloc (Nat.le_refl _) _
        have hPA := bd.size
        have Bx15W := bd.alloc bd.size (.cells #[.int .i64 0, .slice none 0 0] 71)
        have HZ : Hid ((wd.alloc (.cells #[.int .i64 0, .slice none 0 0] 71)).heap.size = wd.heap.size + 1) := by show _ = _; simp
        have bp0 : (wd.alloc (.cells #[.int .i64 0, .slice none 0 0] 71)).cell? ⟨wd.heap.size, 0, none⟩ = some (.int .i64 0) := by simp [go_sem]
        have bq0 : (wd.alloc (.cells #[.int .i64 0, .slice none 0 0] 71)).frozen? ⟨wd.heap.size, 0, none⟩ = false := by simp [go_sem]
        have bp1 : (wd.alloc (.cells #[.int .i64 0, .slice none 0 0] 71)).cell? ⟨wd.heap.size, 1, none⟩ = some (.slice none 0 0) := by simp [go_sem]
        have bq1 : (wd.alloc (.cells #[.int .i64 0, .slice none 0 0] 71)).frozen? ⟨wd.heap.size, 1, none⟩ = false := by simp [go_sem]
        generalize wd.alloc (.cells #[.int .i64 0, .slice none 0 0] 71) = x15W at *
        refine wpAnyH_ready (rs := [1]) (by kernel_rfl) (by simp) ?_
        refine AllReadyH.cons rfl (fun K hK => ?_) AllReadyH.nil
        go_simp
        refine (toPairS_any a n cap ps x15W (h0.below Bx15W) hs).mono ?_
        rintro e v16 ⟨rfl, o1, bv16⟩
        have Bv16 := Bx15W.trans (bv16.mono Bx15W.size)
        have zv16 := bv16.size
        have lPv16 := lt_of_cell bp0
        have bq0 := ((bcell bv16).2 _ _ lPv16).trans bq0
        have bq1 := ((bcell bv16).2 _ _ lPv16).trans bq1
        have bp0 := keep_cell bv16 bp0
        have bp1 := keep_cell bv16 bp1
        go_wp2_with fail
        refine hK.out _ _ ?_ (fun hH => ?_)
        · exact HS.out _ Bv16
        clear hK K
        refine wpAnyH_ready (rs := [4]) (by kernel_rfl) (by simp) ?_
        refine AllReadyH.cons rfl (fun K hK => ?_) AllReadyH.nil
        go_simp
        refine (toBef_any ok oh ov v16).mono ?_
        rintro e v17 ⟨rfl, bv17⟩
        have Bv17 := Bv16.trans (bv17.mono Bv16.size)
        have zv17 := bv17.size
        have o1 := owns_below o1 bv17
        have lPv17 := lt_of_cell bp0
        have bq0 := ((bcell bv17).2 _ _ lPv17).trans bq0
        have bq1 := ((bcell bv17).2 _ _ lPv17).trans bq1
        have bp0 := keep_cell bv17 bp0
        have bp1 := keep_cell bv17 bp1
        go_wp2_with fail
        refine hK.out _ _ ?_ (fun hH => ?_)
        · exact HS.out _ Bv17
        clear hK K
        refine wpAnyH_ready (rs := [6]) (by kernel_rfl) (by simp) ?_
        refine AllReadyH.cons rfl (fun K hK => ?_) AllReadyH.nil
        go_simp
        refine (toBef_any nk nh nv v17).mono ?_
        rintro e v18 ⟨rfl, bv18⟩
        have Bv18 := Bv17.trans (bv18.mono Bv17.size)
        have zv18 := bv18.size
        have o1 := owns_below o1 bv18
        have lPv18 := lt_of_cell bp0
        have bq0 := ((bcell bv18).2 _ _ lPv18).trans bq0
        have bq1 := ((bcell bv18).2 _ _ lPv18).trans bq1
        have bp0 := keep_cell bv18 bp0
        have bp1 := keep_cell bv18 bp1
        go_wp2_with fail
        refine hK.out _ _ ?_ (fun hH => ?_)
        · exact HS.out _ Bv18
        clear hK K
        refine wpAnyH_ready (rs := [7]) (by kernel_rfl) (by simp) ?_
        refine AllReadyH.cons rfl (fun K hK => ?_) AllReadyH.nil
        go_simp
        refine (SI v18 _ (owns_cells o1)).mono ?_
        rintro e v19 ⟨a2, m2, c2, rfl, hm2, o2, bv19⟩
        have L2 := owns_lt o2
        have Bv19 := Bv18.trans (bv19.mono Bv18.size)
        have zv19 := bv19.size
        have o1 := owns_below o1 bv19
        have lPv19 := lt_of_cell bp0
        have bq0 := ((bcell bv19).2 _ _ lPv19).trans bq0
        have bq1 := ((bcell bv19).2 _ _ lPv19).trans bq1
        have bp0 := keep_cell bv19 bp0
        have bp1 := keep_cell bv19 bp1
        go_wp2_with fail
        refine hK.out _ _ ?_ (fun hH => ?_)
        · exact HS.out _ Bv19
        clear hK K
        have lPz := lt_of_cell bp0
        refine wpAnyH_ready (rs := [9]) (by kernel_rfl) (by simp) ?_
        refine AllReadyH.cons rfl (fun K hK => ?_) AllReadyH.nil
        go_simp
        refine hK.out _ _ ?_ (fun hH => ?_)
        · exact HS.out _ ((Bv19.setCell (p := ⟨wd.heap.size, 0, none⟩) hPA (.int .i64 c)).setCell (p := ⟨wd.heap.size, 1, none⟩) hPA (.slice a2 m2 c2))
        clear hK K
        refine wpAnyH_done (by kernel_rfl) ?_ _
        refine NoPanic.normal ?_
        go_wp2_with fail
        go_meet
        have zal := HZ.out
        refine ⟨wd.heap.size, a2, m2, c2, rfl, hPA, by simp [World.setCell] <;> omega, hm2, by simp [go_sem, bp0, bp1], by simp [go_sem, bp0, bp1], ?_, fun g hg => by have := L2 g hg; omega, ((Bv19.setCell (p := ⟨wd.heap.size, 0, none⟩) hPA (.int .i64 c)).setCell (p := ⟨wd.heap.size, 1, none⟩) hPA (.slice a2 m2 c2))⟩
        exact owns_otherB (owns_otherB (owns_base o2 (by omega)) (fun g hg => by have := L2 g hg; omega) _) (fun g hg => by have := L2 g hg; omega) _
    case rest =>
      obtain ⟨w2, hwn⟩ : ∃ x : World, x = wc := ⟨_, rfl⟩
      subst hwn
      obtain ⟨P10, a2, m2, c2, rfl, ⟨hP0, hP1, hm2, x0, x1, o2, hne2, b2'⟩⟩ := hcut
      have L2 := owns_lt o2
      have r0 := keep_cell b2' r0
      have r1 := keep_cell b2' r1
      have r2 := keep_cell b2' r2
      have s0 := keep_cell b2' s0
      have s1 := keep_cell b2' s1
      have s2 := keep_cell b2' s2
      have zr2 := lt_of_cell s0
      go_wp2_with fail
      refine (toPairS_any a n cap ps _ (h0.below b2') hs).mono ?_
      rintro e w3 ⟨rfl, o3, b3⟩
      have b3' := b2'.trans (b3.mono b2'.size)
      have o2 := owns_below o2 b3
      have x0 := keep_cell b3 x0
      have x1 := keep_cell b3 x1
      have r0 := keep_cell b3 r0
      have r1 := keep_cell b3 r1
      have r2 := keep_cell b3 r2
      have s0 := keep_cell b3 s0
      have s1 := keep_cell b3 s1
      have s2 := keep_cell b3 s2
      have z2 := b2'.size
      have z3 := b3.size
      have zr := lt_of_cell s0
      clear b3 b2'
      go_upto_region 7 with fail
      go_cut [12] (fun s wx => ∃ P a2 m2 c2, s = .pointer (some ⟨P, 0, none⟩) ∧ TAt wx w3 P c a2 m2 c2 rs)
      case first =>
        refine wp_region_noPanic ?_
        refine wp_region_held_drew (S := fun W' => W'.cell? ⟨w.heap.size, 0, none⟩ = some (.int .i64 ok) ∧ W'.cell? ⟨w.heap.size, 1, none⟩ = some (.bool oh) ∧ W'.cell? ⟨w.heap.size, 2, none⟩ = some (.int .i64 ov) ∧ W'.cell? ⟨w.heap.size + 1, 0, none⟩ = some (.int .i64 nk) ∧ W'.cell? ⟨w.heap.size + 1, 1, none⟩ = some (.bool nh) ∧ W'.cell? ⟨w.heap.size + 1, 2, none⟩ = some (.int .i64 nv)) (by kernel_rfl) (⟨r0, r1, r2, s0, s1, s2⟩) (fun hH => ?_)
        refine hTake (i := 0) (v := ?_) rfl (by kernel_rfl) (by kernel_rfl) (by kernel_rfl) (by rfl) ?_ hH ?_
        rotate_left
        · intro W hW; (try dsimp only at hW); go_simp <;> with_reducible rfl
        simp only [Act.put, List.setIfInBounds_toArray, List.set_cons_zero, List.set_cons_succ]
        refine hTake (i := 1) (v := ?_) rfl (by kernel_rfl) (by kernel_rfl) (by kernel_rfl) (by rfl) ?_ hH ?_
        rotate_left
        · intro W hW; (try dsimp only at hW); go_simp <;> with_reducible rfl
        simp only [Act.put, List.setIfInBounds_toArray, List.set_cons_zero, List.set_cons_succ]
        refine hTake (i := 2) (v := ?_) rfl (by kernel_rfl) (by kernel_rfl) (by kernel_rfl) (by rfl) ?_ hH ?_
        rotate_left
        · intro W hW; (try dsimp only at hW); go_simp <;> with_reducible rfl
        simp only [Act.put, List.setIfInBounds_toArray, List.set_cons_zero, List.set_cons_succ]
        refine hTake (i := 4) (v := ?_) rfl (by kernel_rfl) (by kernel_rfl) (by kernel_rfl) (by rfl) ?_ hH ?_
        rotate_left
        · intro W hW; (try dsimp only at hW); go_simp <;> with_reducible rfl
        simp only [Act.put, List.setIfInBounds_toArray, List.set_cons_zero, List.set_cons_succ]
        have HS : Hid (∀ W', Below w3.heap.size w3 W' → W'.cell? ⟨w.heap.size, 0, none⟩ = some (.int .i64 ok) ∧ W'.cell? ⟨w.heap.size, 1, none⟩ = some (.bool oh) ∧ W'.cell? ⟨w.heap.size, 2, none⟩ = some (.int .i64 ov) ∧ W'.cell? ⟨w.heap.size + 1, 0, none⟩ = some (.int .i64 nk) ∧ W'.cell? ⟨w.heap.size + 1, 1, none⟩ = some (.bool nh) ∧ W'.cell? ⟨w.heap.size + 1, 2, none⟩ = some (.int .i64 nv)) := fun W' hW => ⟨keep_cell hW r0, keep_cell hW r1, keep_cell hW r2, keep_cell hW s0, keep_cell hW s1, keep_cell hW s2⟩
        have bd : Below w3.heap.size w3 w3.drew := (Below.refl _ _).drew
        have zd := bd.size
        have o1 := owns_below o3 bd
        generalize w3.drew = wd at *
        refine wpAnyH_ready (rs := [3, 7]) (by kernel_rfl) (by simp) ?_
        refine AllReadyH.cons rfl (fun K hK => ?_) (AllReadyH.cons rfl (fun K hK => ?_) AllReadyH.nil)
        focus
          go_simp
          refine (toBef_any ok oh ov wd).mono ?_
          rintro e v1 ⟨rfl, bv1⟩
          have Bv1 := bd.trans (bv1.mono bd.size)
          have zv1 := bv1.size
          have o1 := owns_below o1 bv1
          go_wp2_with fail
          refine hK.out _ _ ?_ (fun hH => ?_)
          · exact HS.out _ Bv1
          clear hK K
          refine wpAnyH_ready (rs := [5, 7]) (by kernel_rfl) (by simp) ?_
          refine AllReadyH.cons rfl (fun K hK => ?_) (AllReadyH.cons rfl (fun K hK => ?_) AllReadyH.nil)
          focus
            go_simp
            refine (toBef_any nk nh nv v1).mono ?_
            rintro e v2 ⟨rfl, bv2⟩
            have Bv2 := Bv1.trans (bv2.mono Bv1.size)
            have zv2 := bv2.size
            have o1 := owns_below o1 bv2
            go_wp2_with fail
            refine hK.out _ _ ?_ (fun hH => ?_)
            · exact HS.out _ Bv2
            clear hK K
            refine wpAnyH_ready (rs := [6, 7]) (by kernel_rfl) (by simp) ?_
            refine AllReadyH.cons rfl (fun K hK => ?_) (AllReadyH.cons rfl (fun K hK => ?_) AllReadyH.nil)
            focus
              go_simp
              refine (II v2 _ (owns_cells o1)).mono ?_
              rintro e v3 ⟨a2, m2, c2, rfl, hm2, o2, bv3⟩
              have L2 := owns_lt o2
              have Bv3 := Bv2.trans (bv3.mono Bv2.size)
              have zv3 := bv3.size
              have o1 := owns_below o1 bv3
              go_wp2_with fail
              refine hK.out _ _ ?_ (fun hH => ?_)
              · exact HS.out _ Bv3
              clear hK K
              refine wpAnyH_ready (rs := [7]) (by kernel_rfl) (by simp) ?_
              refine AllReadyH.cons rfl (fun K hK => ?_) AllReadyH.nil
              go_simp
              refine hK.out _ _ ?_ (fun hH => ?_)
              · exact HS.out _ (Bv3.alloc Bv3.size _)
              clear hK K
              have bal : Below v3.heap.size v3 (v3.alloc (.cells #[.int .i64 0, .slice none 0 0] 71)) := (Below.refl _ _).alloc (Nat.le_refl _) _
              have hPA := Bv3.size
              have Bx4W := Bv3.alloc Bv3.size (.cells #[.int .i64 0, .slice none 0 0] 71)
              have HZ : Hid ((v3.alloc (.cells #[.int .i64 0, .slice none 0 0] 71)).heap.size = v3.heap.size + 1) := by show _ = _; simp
              have bp0 : (v3.alloc (.cells #[.int .i64 0, .slice none 0 0] 71)).cell? ⟨v3.heap.size, 0, none⟩ = some (.int .i64 0) := by simp [go_sem]
              have bq0 : (v3.alloc (.cells #[.int .i64 0, .slice none 0 0] 71)).frozen? ⟨v3.heap.size, 0, none⟩ = false := by simp [go_sem]
              have bp1 : (v3.alloc (.cells #[.int .i64 0, .slice none 0 0] 71)).cell? ⟨v3.heap.size, 1, none⟩ = some (.slice none 0 0) := by simp [go_sem]
              have bq1 : (v3.alloc (.cells #[.int .i64 0, .slice none 0 0] 71)).frozen? ⟨v3.heap.size, 1, none⟩ = false := by simp [go_sem]
              have o2 := owns_below o2 bal
              generalize v3.alloc (.cells #[.int .i64 0, .slice none 0 0] 71) = x4W at *
              have lPz := lt_of_cell bp0
              refine wpAnyH_ready (rs := [8]) (by kernel_rfl) (by simp) ?_
              refine AllReadyH.cons rfl (fun K hK => ?_) AllReadyH.nil
              go_simp
              refine hK.out _ _ ?_ (fun hH => ?_)
              · exact HS.out _ ((Bx4W.setCell (p := ⟨v3.heap.size, 0, none⟩) hPA (.int .i64 c)).setCell (p := ⟨v3.heap.size, 1, none⟩) hPA (.slice a2 m2 c2))
              clear hK K
              refine wpAnyH_done (by kernel_rfl) ?_ _
              refine NoPanic.normal ?_
              go_wp2_with fail
              go_meet
              have zal := HZ.out
              refine ⟨v3.heap.size, a2, m2, c2, rfl, hPA, by simp [World.setCell] <;> omega, hm2, by simp [go_sem, bp0, bp1], by simp [go_sem, bp0, bp1], ?_, fun g hg => by have := L2 g hg; omega, ((Bx4W.setCell (p := ⟨v3.heap.size, 0, none⟩) hPA (.int .i64 c)).setCell (p := ⟨v3.heap.size, 1, none⟩) hPA (.slice a2 m2 c2))⟩
              exact owns_otherB (owns_otherB (owns_base o2 (by omega)) (fun g hg => by have := L2 g hg; omega) _) (fun g hg => by have := L2 g hg; omega) _
            focus
              go_simp
              refine hK.out _ _ ?_ (fun hH => ?_)
              · exact HS.out _ (Bv2.alloc Bv2.size _)
              clear hK K
              have bal : Below v2.heap.size v2 (v2.alloc (.cells #[.int .i64 0, .slice none 0 0] 71)) := (Below.refl _ _).alloc (Nat.le_refl _) _
              have hPA := Bv2.size
              have Bx5W := Bv2.alloc Bv2.size (.cells #[.int .i64 0, .slice none 0 0] 71)
              have HZ : Hid ((v2.alloc (.cells #[.int .i64 0, .slice none 0 0] 71)).heap.size = v2.heap.size + 1) := by show _ = _; simp
              have bp0 : (v2.alloc (.cells #[.int .i64 0, .slice none 0 0] 71)).cell? ⟨v2.heap.size, 0, none⟩ = some (.int .i64 0) := by simp [go_sem]
              have bq0 : (v2.alloc (.cells #[.int .i64 0, .slice none 0 0] 71)).frozen? ⟨v2.heap.size, 0, none⟩ = false := by simp [go_sem]
              have bp1 : (v2.alloc (.cells #[.int .i64 0, .slice none 0 0] 71)).cell? ⟨v2.heap.size, 1, none⟩ = some (.slice none 0 0) := by simp [go_sem]
              have bq1 : (v2.alloc (.cells #[.int .i64 0, .slice none 0 0] 71)).frozen? ⟨v2.heap.size, 1, none⟩ = false := by simp [go_sem]
              have o1 := owns_below o1 bal
              generalize v2.alloc (.cells #[.int .i64 0, .slice none 0 0] 71) = x5W at *
              refine wpAnyH_ready (rs := [6]) (by kernel_rfl) (by simp) ?_
              refine AllReadyH.cons rfl (fun K hK => ?_) AllReadyH.nil
              go_simp
              refine (II x5W _ (owns_cells o1)).mono ?_
              rintro e v6 ⟨a2, m2, c2, rfl, hm2, o2, bv6⟩
              have L2 := owns_lt o2
              have Bv6 := Bx5W.trans (bv6.mono Bx5W.size)
              have zv6 := bv6.size
              have o1 := owns_below o1 bv6
              have lPv6 := lt_of_cell bp0
              have bq0 := ((bcell bv6).2 _ _ lPv6).trans bq0
              have bq1 := ((bcell bv6).2 _ _ lPv6).trans bq1
              have bp0 := keep_cell bv6 bp0
              have bp1 := keep_cell bv6 bp1
              go_wp2_with fail
              refine hK.out _ _ ?_ (fun hH => ?_)
              · exact HS.out _ Bv6
              clear hK K
              have lPz := lt_of_cell bp0
              refine wpAnyH_ready (rs := [8]) (by kernel_rfl) (by simp) ?_
              refine AllReadyH.cons rfl (fun K hK => ?_) AllReadyH.nil
              go_simp
              refine hK.out _ _ ?_ (fun hH => ?_)
              · exact HS.out _ ((Bv6.setCell (p := ⟨v2.heap.size, 0, none⟩) hPA (.int .i64 c)).setCell (p := ⟨v2.heap.size, 1, none⟩) hPA (.slice a2 m2 c2))
              clear hK K
              refine wpAnyH_done (by kernel_rfl) ?_ _
              refine NoPanic.normal ?_
              go_wp2_with fail
              go_meet
              have zal := HZ.out
              refine ⟨v2.heap.size, a2, m2, c2, rfl, hPA, by simp [World.setCell] <;> omega, hm2, by simp [go_sem, bp0, bp1], by simp [go_sem, bp0, bp1], ?_, fun g hg => by have := L2 g hg; omega, ((Bv6.setCell (p := ⟨v2.heap.size, 0, none⟩) hPA (.int .i64 c)).setCell (p := ⟨v2.heap.size, 1, none⟩) hPA (.slice a2 m2 c2))⟩
              exact owns_otherB (owns_otherB (owns_base o2 (by omega)) (fun g hg => by have := L2 g hg; omega) _) (fun g hg => by have := L2 g hg; omega) _
          focus
            go_simp
            refine hK.out _ _ ?_ (fun hH => ?_)
            · exact HS.out _ (Bv1.alloc Bv1.size _)
            clear hK K
            have bal : Below v1.heap.size v1 (v1.alloc (.cells #[.int .i64 0, .slice none 0 0] 71)) := (Below.refl _ _).alloc (Nat.le_refl _) _
            have hPA := Bv1.size
            have Bx7W := Bv1.alloc Bv1.size (.cells #[.int .i64 0, .slice none 0 0] 71)
            have HZ : Hid ((v1.alloc (.cells #[.int .i64 0, .slice none 0 0] 71)).heap.size = v1.heap.size + 1) := by show _ = _; simp
            have bp0 : (v1.alloc (.cells #[.int .i64 0, .slice none 0 0] 71)).cell? ⟨v1.heap.size, 0, none⟩ = some (.int .i64 0) := by simp [go_sem]
            have bq0 : (v1.alloc (.cells #[.int .i64 0, .slice none 0 0] 71)).frozen? ⟨v1.heap.size, 0, none⟩ = false := by simp [go_sem]
            have bp1 : (v1.alloc (.cells #[.int .i64 0, .slice none 0 0] 71)).cell? ⟨v1.heap.size, 1, none⟩ = some (.slice none 0 0) := by simp [go_sem]
            have bq1 : (v1.alloc (.cells #[.int .i64 0, .slice none 0 0] 71)).frozen? ⟨v1.heap.size, 1, none⟩ = false := by simp [go_sem]
            have o1 := owns_below o1 bal
            generalize v1.alloc (.cells #[.int .i64 0, .slice none 0 0] 71) = x7W at *
            refine wpAnyH_ready (rs := [5]) (by kernel_rfl) (by simp) ?_
            refine AllReadyH.cons rfl (fun K hK => ?_) AllReadyH.nil
            go_simp
            refine (toBef_any nk nh nv x7W).mono ?_
            rintro e v8 ⟨rfl, bv8⟩
            have Bv8 := Bx7W.trans (bv8.mono Bx7W.size)
            have zv8 := bv8.size
            have o1 := owns_below o1 bv8
            have lPv8 := lt_of_cell bp0
            have bq0 := ((bcell bv8).2 _ _ lPv8).trans bq0
            have bq1 := ((bcell bv8).2 _ _ lPv8).trans bq1
            have bp0 := keep_cell bv8 bp0
            have bp1 := keep_cell bv8 bp1
            go_wp2_with fail
            refine hK.out _ _ ?_ (fun hH => ?_)
            · exact HS.out _ Bv8
            clear hK K
            refine wpAnyH_ready (rs := [6]) (by kernel_rfl) (by simp) ?_
            refine AllReadyH.cons rfl (fun K hK => ?_) AllReadyH.nil
            go_simp
            refine (II v8 _ (owns_cells o1)).mono ?_
            rintro e v9 ⟨a2, m2, c2, rfl, hm2, o2, bv9⟩
            have L2 := owns_lt o2
            have Bv9 := Bv8.trans (bv9.mono Bv8.size)
            have zv9 := bv9.size
            have o1 := owns_below o1 bv9
            have lPv9 := lt_of_cell bp0
            have bq0 := ((bcell bv9).2 _ _ lPv9).trans bq0
            have bq1 := ((bcell bv9).2 _ _ lPv9).trans bq1
            have bp0 := keep_cell bv9 bp0
            have bp1 := keep_cell bv9 bp1
            go_wp2_with fail
            refine hK.out _ _ ?_ (fun hH => ?_)
            · exact HS.out _ Bv9
            clear hK K
            have lPz := lt_of_cell bp0
            refine wpAnyH_ready (rs := [8]) (by kernel_rfl) (by simp) ?_
            refine AllReadyH.cons rfl (fun K hK => ?_) AllReadyH.nil
            go_simp
            refine hK.out _ _ ?_ (fun hH => ?_)
            · exact HS.out _ ((Bv9.setCell (p := ⟨v1.heap.size, 0, none⟩) hPA (.int .i64 c)).setCell (p := ⟨v1.heap.size, 1, none⟩) hPA (.slice a2 m2 c2))
            clear hK K
            refine wpAnyH_done (by kernel_rfl) ?_ _
            refine NoPanic.normal ?_
            go_wp2_with fail
            go_meet
            have zal := HZ.out
            refine ⟨v1.heap.size, a2, m2, c2, rfl, hPA, by simp [World.setCell] <;> omega, hm2, by simp [go_sem, bp0, bp1], by simp [go_sem, bp0, bp1], ?_, fun g hg => by have := L2 g hg; omega, ((Bv9.setCell (p := ⟨v1.heap.size, 0, none⟩) hPA (.int .i64 c)).setCell (p := ⟨v1.heap.size, 1, none⟩) hPA (.slice a2 m2 c2))⟩
            exact owns_otherB (owns_otherB (owns_base o2 (by omega)) (fun g hg => by have := L2 g hg; omega) _) (fun g hg => by have := L2 g hg; omega) _
        focus
          go_simp
          refine hK.out _ _ ?_ (fun hH => ?_)
          · exact HS.out _ (bd.alloc bd.size _)
          clear hK K
          have bal : Below wd.heap.size wd (wd.alloc (.cells #[.int .i64 0, .slice none 0 0] 71)) := (Below.refl _ _).alloc (Nat.le_refl _) _
          have hPA := bd.size
          have Bx10W := bd.alloc bd.size (.cells #[.int .i64 0, .slice none 0 0] 71)
          have HZ : Hid ((wd.alloc (.cells #[.int .i64 0, .slice none 0 0] 71)).heap.size = wd.heap.size + 1) := by show _ = _; simp
          have bp0 : (wd.alloc (.cells #[.int .i64 0, .slice none 0 0] 71)).cell? ⟨wd.heap.size, 0, none⟩ = some (.int .i64 0) := by simp [go_sem]
          have bq0 : (wd.alloc (.cells #[.int .i64 0, .slice none 0 0] 71)).frozen? ⟨wd.heap.size, 0, none⟩ = false := by simp [go_sem]
          have bp1 : (wd.alloc (.cells #[.int .i64 0, .slice none 0 0] 71)).cell? ⟨wd.heap.size, 1, none⟩ = some (.slice none 0 0) := by simp [go_sem]
          have bq1 : (wd.alloc (.cells #[.int .i64 0, .slice none 0 0] 71)).frozen? ⟨wd.heap.size, 1, none⟩ = false := by simp [go_sem]
          have o1 := owns_below o1 bal
          generalize wd.alloc (.cells #[.int .i64 0, .slice none 0 0] 71) = x10W at *
          refine wpAnyH_ready (rs := [3]) (by kernel_rfl) (by simp) ?_
          refine AllReadyH.cons rfl (fun K hK => ?_) AllReadyH.nil
          go_simp
          refine (toBef_any ok oh ov x10W).mono ?_
          rintro e v11 ⟨rfl, bv11⟩
          have Bv11 := Bx10W.trans (bv11.mono Bx10W.size)
          have zv11 := bv11.size
          have o1 := owns_below o1 bv11
          have lPv11 := lt_of_cell bp0
          have bq0 := ((bcell bv11).2 _ _ lPv11).trans bq0
          have bq1 := ((bcell bv11).2 _ _ lPv11).trans bq1
          have bp0 := keep_cell bv11 bp0
          have bp1 := keep_cell bv11 bp1
          go_wp2_with fail
          refine hK.out _ _ ?_ (fun hH => ?_)
          · exact HS.out _ Bv11
          clear hK K
          refine wpAnyH_ready (rs := [5]) (by kernel_rfl) (by simp) ?_
          refine AllReadyH.cons rfl (fun K hK => ?_) AllReadyH.nil
          go_simp
          refine (toBef_any nk nh nv v11).mono ?_
          rintro e v12 ⟨rfl, bv12⟩
          have Bv12 := Bv11.trans (bv12.mono Bv11.size)
          have zv12 := bv12.size
          have o1 := owns_below o1 bv12
          have lPv12 := lt_of_cell bp0
          have bq0 := ((bcell bv12).2 _ _ lPv12).trans bq0
          have bq1 := ((bcell bv12).2 _ _ lPv12).trans bq1
          have bp0 := keep_cell bv12 bp0
          have bp1 := keep_cell bv12 bp1
          go_wp2_with fail
          refine hK.out _ _ ?_ (fun hH => ?_)
          · exact HS.out _ Bv12
          clear hK K
          refine wpAnyH_ready (rs := [6]) (by kernel_rfl) (by simp) ?_
          refine AllReadyH.cons rfl (fun K hK => ?_) AllReadyH.nil
          go_simp
          refine (II v12 _ (owns_cells o1)).mono ?_
          rintro e v13 ⟨a2, m2, c2, rfl, hm2, o2, bv13⟩
          have L2 := owns_lt o2
          have Bv13 := Bv12.trans (bv13.mono Bv12.size)
          have zv13 := bv13.size
          have o1 := owns_below o1 bv13
          have lPv13 := lt_of_cell bp0
          have bq0 := ((bcell bv13).2 _ _ lPv13).trans bq0
          have bq1 := ((bcell bv13).2 _ _ lPv13).trans bq1
          have bp0 := keep_cell bv13 bp0
          have bp1 := keep_cell bv13 bp1
          go_wp2_with fail
          refine hK.out _ _ ?_ (fun hH => ?_)
          · exact HS.out _ Bv13
          clear hK K
          have lPz := lt_of_cell bp0
          refine wpAnyH_ready (rs := [8]) (by kernel_rfl) (by simp) ?_
          refine AllReadyH.cons rfl (fun K hK => ?_) AllReadyH.nil
          go_simp
          refine hK.out _ _ ?_ (fun hH => ?_)
          · exact HS.out _ ((Bv13.setCell (p := ⟨wd.heap.size, 0, none⟩) hPA (.int .i64 c)).setCell (p := ⟨wd.heap.size, 1, none⟩) hPA (.slice a2 m2 c2))
          clear hK K
          refine wpAnyH_done (by kernel_rfl) ?_ _
          refine NoPanic.normal ?_
          go_wp2_with fail
          go_meet
          have zal := HZ.out
          refine ⟨wd.heap.size, a2, m2, c2, rfl, hPA, by simp [World.setCell] <;> omega, hm2, by simp [go_sem, bp0, bp1], by simp [go_sem, bp0, bp1], ?_, fun g hg => by have := L2 g hg; omega, ((Bv13.setCell (p := ⟨wd.heap.size, 0, none⟩) hPA (.int .i64 c)).setCell (p := ⟨wd.heap.size, 1, none⟩) hPA (.slice a2 m2 c2))⟩
          exact owns_otherB (owns_otherB (owns_base o2 (by omega)) (fun g hg => by have := L2 g hg; omega) _) (fun g hg => by have := L2 g hg; omega) _
      case rest =>
        obtain ⟨w4, hwn⟩ : ∃ x : World, x = wc := ⟨_, rfl⟩
        subst hwn
        obtain ⟨P12, a4, m4, c4, rfl, ⟨hq0, hq1, hm4, y0, y1, o4, hne4, b4⟩⟩ := hcut
        have L4 := owns_lt o4
        have b4' := b3'.trans (b4.mono b3'.size)
        have bx := b4
        have o2 := owns_below o2 b4
        have x0 := keep_cell b4 x0
        have x1 := keep_cell b4 x1
        have r0 := keep_cell b4 r0
        have r1 := keep_cell b4 r1
        have r2 := keep_cell b4 r2
        have s0 := keep_cell b4 s0
        have s1 := keep_cell b4 s1
        have s2 := keep_cell b4 s2
        have z4 := b4.size
        have HM : m4 = m2 := by have e2 := o2.1; have e4 := o4.1; omega
        subst HM
        have hq : ((1 + 2 * (m4 : Int)) != 1 + 2 * m4) = false := by simp
        clear b4
        go_wp2_with fail
        refine (eqPairsResult_same _ a4 a2 m4 c4 c2 rs _ (owns_cells o4) (owns_cells o2) (by omega)).mono ?_
        rintro e w5 ⟨rfl, b5⟩
        have b5' := b4'.trans (b5.mono b4'.size)
        have bx := bx.trans (b5.mono bx.size)
        have o2 := owns_below o2 b5
        have o4 := owns_below o4 b5
        have x0 := keep_cell b5 x0
        have x1 := keep_cell b5 x1
        have y0 := keep_cell b5 y0
        have y1 := keep_cell b5 y1
        have r0 := keep_cell b5 r0
        have r1 := keep_cell b5 r1
        have r2 := keep_cell b5 r2
        have s0 := keep_cell b5 s0
        have s1 := keep_cell b5 s1
        have s2 := keep_cell b5 s2
        go_wp2_with fail
        refine (toPairS_any a n cap ps _ (h0.below b5') hs).mono ?_
        rintro e w6 ⟨rfl, o6, b6⟩
        have b6' := b5'.trans (b6.mono b5'.size)
        have bx := bx.trans (b6.mono bx.size)
        have o2 := owns_below o2 b6
        have o4 := owns_below o4 b6
        have x0 := keep_cell b6 x0
        have x1 := keep_cell b6 x1
        have y0 := keep_cell b6 y0
        have y1 := keep_cell b6 y1
        have r0 := keep_cell b6 r0
        have r1 := keep_cell b6 r1
        have r2 := keep_cell b6 r2
        have s0 := keep_cell b6 s0
        have s1 := keep_cell b6 s1
        have s2 := keep_cell b6 s2
        go_wp2_with fail
        refine (eqPairS_same _ _ n n n ps _ (owns_cells (owns_below o3 bx)) (owns_cells o6) hs).mono ?_
        rintro e w7 ⟨rfl, b7⟩
        have b7' := b6'.trans (b7.mono b6'.size)
        have bx := bx.trans (b7.mono bx.size)
        have o2 := owns_below o2 b7
        have o4 := owns_below o4 b7
        have x0 := keep_cell b7 x0
        have x1 := keep_cell b7 x1
        have y0 := keep_cell b7 y0
        have y1 := keep_cell b7 y1
        have r0 := keep_cell b7 r0
        have r1 := keep_cell b7 r1
        have r2 := keep_cell b7 r2
        have s0 := keep_cell b7 s0
        have s1 := keep_cell b7 s1
        have s2 := keep_cell b7 s2
        clear o6 b6' b6 b5 b5' b4' b3'
        go_wp2_with fail
        have L3' := owns_lt o3
        have o3 := owns_below o3 bx
        have L3 := owns_lt o3
        refine (markPairs_any 1 _ n _ n ps _ (by decide) (by decide) o3 (by omega)).mono ?_
        rintro e w8 ⟨rfl, _, gr8⟩
        have hk0 : ¬ (1 + 2 * (n : Int)) < 0 := by omega
        generalize (1 + 2 * (n : Int)) = kk at *
        have b8' := b7'.grown gr8 b7'.size (by intro k hk; have := L3 k hk; omega)
        have o2 := owns_grown o2 gr8 (fun g hg hk => by have := L2 g hg; have := L3 g hk; omega)
        have o4 := owns_grown o4 gr8 (fun g hg hk => by have := L4 g hg; have := L3' g hk; omega)
        have x0 := grown_cell gr8 x0 (fun hk => by have := L3 _ hk; have := L3' _ hk; omega)
        have x1 := grown_cell gr8 x1 (fun hk => by have := L3 _ hk; have := L3' _ hk; omega)
        have y0 := grown_cell gr8 y0 (fun hk => by have := L3 _ hk; have := L3' _ hk; omega)
        have y1 := grown_cell gr8 y1 (fun hk => by have := L3 _ hk; have := L3' _ hk; omega)
        have r0 := grown_cell gr8 r0 (fun hk => by have := L3 _ hk; have := L3' _ hk; omega)
        have r1 := grown_cell gr8 r1 (fun hk => by have := L3 _ hk; have := L3' _ hk; omega)
        have r2 := grown_cell gr8 r2 (fun hk => by have := L3 _ hk; have := L3' _ hk; omega)
        have s0 := grown_cell gr8 s0 (fun hk => by have := L3 _ hk; have := L3' _ hk; omega)
        have s1 := grown_cell gr8 s1 (fun hk => by have := L3 _ hk; have := L3' _ hk; omega)
        have s2 := grown_cell gr8 s2 (fun hk => by have := L3 _ hk; have := L3' _ hk; omega)
        clear b7' b7 o3 gr8 bx
        go_wp2_with fail
        refine (eqPairsResult_same _ a4 a2 m4 c4 c2 rs _ (owns_cells o4) (owns_cells o2) (by omega)).mono ?_
        rintro e w9 ⟨rfl, b9⟩
        have b9' := b8'.trans (b9.mono b8'.size)
        have o2 := owns_below o2 b9
        have o4 := owns_below o4 b9
        have x0 := keep_cell b9 x0
        have x1 := keep_cell b9 x1
        have y0 := keep_cell b9 y0
        have y1 := keep_cell b9 y1
        have r0 := keep_cell b9 r0
        have r1 := keep_cell b9 r1
        have r2 := keep_cell b9 r2
        have s0 := keep_cell b9 s0
        have s1 := keep_cell b9 s1
        have s2 := keep_cell b9 s2
        clear b8' b9
        go_wp2_with fail
        refine (markPairsResult_any _ _ a4 m4 c4 rs _ o4 (by omega)).mono ?_
        rintro e w10 ⟨rfl, o5, gr10⟩
        have b10' := b9'.grown gr10 b9'.size (by intro k hk; have := L4 k hk; omega)
        have o2 := owns_grown o2 gr10 (fun g hg hk => by have := L2 g hg; have := L4 g hk; omega)
        have x0 := grown_cell gr10 x0 (fun hk => by have := L4 _ hk; omega)
        have x1 := grown_cell gr10 x1 (fun hk => by have := L4 _ hk; omega)
        have r0 := grown_cell gr10 r0 (fun hk => by have := L4 _ hk; omega)
        have r1 := grown_cell gr10 r1 (fun hk => by have := L4 _ hk; omega)
        have r2 := grown_cell gr10 r2 (fun hk => by have := L4 _ hk; omega)
        have s0 := grown_cell gr10 s0 (fun hk => by have := L4 _ hk; omega)
        have s1 := grown_cell gr10 s1 (fun hk => by have := L4 _ hk; omega)
        have s2 := grown_cell gr10 s2 (fun hk => by have := L4 _ hk; omega)
        have y0 := grown_cell gr10 y0 (fun hk => hne4 _ hk rfl)
        have y1 := grown_cell gr10 y1 (fun hk => hne4 _ hk rfl)
        clear b9' gr10 o4
        go_wp2_with fail
        refine (heldPairsResult_any _ a4 m4 c4 _ (owns_cells o5) (by omega)).mono ?_
        rintro e w11 ⟨rfl, b11⟩
        have b12' := b10'.trans (b11.mono b10'.size)
        have o2 := owns_below o2 b11
        have o5 := owns_below o5 b11
        have x0 := keep_cell b11 x0
        have x1 := keep_cell b11 x1
        have y0 := keep_cell b11 y0
        have y1 := keep_cell b11 y1
        have r0 := keep_cell b11 r0
        have r1 := keep_cell b11 r1
        have r2 := keep_cell b11 r2
        have s0 := keep_cell b11 s0
        have s1 := keep_cell b11 s1
        have s2 := keep_cell b11 s2
        clear b10' b11
        go_upto_region 24 with fail
        obtain ⟨w12, hw12⟩ : ∃ x : World, x = w11 := ⟨_, rfl⟩
        subst hw12
        have h12 := h0.below b12'
        go_cut [16] (fun s wx => ∃ P a2 m2 c2, s = .pointer (some ⟨P, 0, none⟩) ∧ TAt wx w12 P c a2 m2 c2 rs)
        case first =>
          refine wp_region_noPanic ?_
          refine wp_region_held_drew (S := fun W' => W'.cell? ⟨w.heap.size, 0, none⟩ = some (.int .i64 ok) ∧ W'.cell? ⟨w.heap.size, 1, none⟩ = some (.bool oh) ∧ W'.cell? ⟨w.heap.size, 2, none⟩ = some (.int .i64 ov) ∧ W'.cell? ⟨w.heap.size + 1, 0, none⟩ = some (.int .i64 nk) ∧ W'.cell? ⟨w.heap.size + 1, 1, none⟩ = some (.bool nh) ∧ W'.cell? ⟨w.heap.size + 1, 2, none⟩ = some (.int .i64 nv)) (by kernel_rfl) (⟨r0, r1, r2, s0, s1, s2⟩) (fun hH => ?_)
          refine hTake (i := 0) (v := ?_) rfl (by kernel_rfl) (by kernel_rfl) (by kernel_rfl) (by rfl) ?_ hH ?_
          rotate_left
          · intro W hW; (try dsimp only at hW); go_simp <;> with_reducible rfl
          simp only [Act.put, List.setIfInBounds_toArray, List.set_cons_zero, List.set_cons_succ]
          refine hTake (i := 2) (v := ?_) rfl (by kernel_rfl) (by kernel_rfl) (by kernel_rfl) (by rfl) ?_ hH ?_
          rotate_left
          · intro W hW; (try dsimp only at hW); go_simp <;> with_reducible rfl
          simp only [Act.put, List.setIfInBounds_toArray, List.set_cons_zero, List.set_cons_succ]
          refine hTake (i := 3) (v := ?_) rfl (by kernel_rfl) (by kernel_rfl) (by kernel_rfl) (by rfl) ?_ hH ?_
          rotate_left
          · intro W hW; (try dsimp only at hW); go_simp <;> with_reducible rfl
          simp only [Act.put, List.setIfInBounds_toArray, List.set_cons_zero, List.set_cons_succ]
          refine hTake (i := 5) (v := ?_) rfl (by kernel_rfl) (by kernel_rfl) (by kernel_rfl) (by rfl) ?_ hH ?_
          rotate_left
          · intro W hW; (try dsimp only at hW); go_simp <;> with_reducible rfl
          simp only [Act.put, List.setIfInBounds_toArray, List.set_cons_zero, List.set_cons_succ]
          have HS : Hid (∀ W', Below w12.heap.size w12 W' → W'.cell? ⟨w.heap.size, 0, none⟩ = some (.int .i64 ok) ∧ W'.cell? ⟨w.heap.size, 1, none⟩ = some (.bool oh) ∧ W'.cell? ⟨w.heap.size, 2, none⟩ = some (.int .i64 ov) ∧ W'.cell? ⟨w.heap.size + 1, 0, none⟩ = some (.int .i64 nk) ∧ W'.cell? ⟨w.heap.size + 1, 1, none⟩ = some (.bool nh) ∧ W'.cell? ⟨w.heap.size + 1, 2, none⟩ = some (.int .i64 nv)) := fun W' hW => ⟨keep_cell hW r0, keep_cell hW r1, keep_cell hW r2, keep_cell hW s0, keep_cell hW s1, keep_cell hW s2⟩
          have bd : Below w12.heap.size w12 w12.drew := (Below.refl _ _).drew
          have zd := bd.size
          generalize w12.drew = wd at *
          refine wpAnyH_ready (rs := [1, 8]) (by kernel_rfl) (by simp) ?_
          refine AllReadyH.cons rfl (fun K hK => ?_) (AllReadyH.cons rfl (fun K hK => ?_) AllReadyH.nil)
          focus
            go_simp
            refine (toPairS_any a n cap ps wd (h12.below bd) hs).mono ?_
            rintro e v1 ⟨rfl, o1, bv1⟩
            have Bv1 := bd.trans (bv1.mono bd.size)
            have zv1 := bv1.size
            go_wp2_with fail
            refine hK.out _ _ ?_ (fun hH => ?_)
            · exact HS.out _ Bv1
            clear hK K
            refine wpAnyH_ready (rs := [4, 8]) (by kernel_rfl) (by simp) ?_
            refine AllReadyH.cons rfl (fun K hK => ?_) (AllReadyH.cons rfl (fun K hK => ?_) AllReadyH.nil)
            focus
              go_simp
              refine (toBef_any ok oh ov v1).mono ?_
              rintro e v2 ⟨rfl, bv2⟩
              have Bv2 := Bv1.trans (bv2.mono Bv1.size)
              have zv2 := bv2.size
              have o1 := owns_below o1 bv2
              go_wp2_with fail
              refine hK.out _ _ ?_ (fun hH => ?_)
              · exact HS.out _ Bv2
              clear hK K
              refine wpAnyH_ready (rs := [6, 8]) (by kernel_rfl) (by simp) ?_
              refine AllReadyH.cons rfl (fun K hK => ?_) (AllReadyH.cons rfl (fun K hK => ?_) AllReadyH.nil)
              focus
                go_simp
                refine (toBef_any nk nh nv v2).mono ?_
                rintro e v3 ⟨rfl, bv3⟩
                have Bv3 := Bv2.trans (bv3.mono Bv2.size)
                have zv3 := bv3.size
                have o1 := owns_below o1 bv3
                go_wp2_with fail
                refine hK.out _ _ ?_ (fun hH => ?_)
                · exact HS.out _ Bv3
                clear hK K
                refine wpAnyH_ready (rs := [7, 8]) (by kernel_rfl) (by simp) ?_
                refine AllReadyH.cons rfl (fun K hK => ?_) (AllReadyH.cons rfl (fun K hK => ?_) AllReadyH.nil)
                focus
                  go_simp
                  refine (II v3 _ (owns_cells o1)).mono ?_
                  rintro e v4 ⟨a2, m2, c2, rfl, hm2, o2, bv4⟩
                  have L2 := owns_lt o2
                  have Bv4 := Bv3.trans (bv4.mono Bv3.size)
                  have zv4 := bv4.size
                  have o1 := owns_below o1 bv4
                  go_wp2_with fail
                  refine hK.out _ _ ?_ (fun hH => ?_)
                  · exact HS.out _ Bv4
                  clear hK K
                  refine wpAnyH_ready (rs := [8]) (by kernel_rfl) (by simp) ?_
                  refine AllReadyH.cons rfl (fun K hK => ?_) AllReadyH.nil
                  go_simp
                  refine hK.out _ _ ?_ (fun hH => ?_)
                  · exact HS.out _ (Bv4.alloc Bv4.size _)
                  clear hK K
                  have bal : Below v4.heap.size v4 (v4.alloc (.cells #[.int .i64 0, .slice none 0 0] 71)) := (Below.refl _ _).alloc (Nat.le_refl _) _
                  have hPA := Bv4.size
                  have Bx5W := Bv4.alloc Bv4.size (.cells #[.int .i64 0, .slice none 0 0] 71)
                  have HZ : Hid ((v4.alloc (.cells #[.int .i64 0, .slice none 0 0] 71)).heap.size = v4.heap.size + 1) := by show _ = _; simp
                  have bp0 : (v4.alloc (.cells #[.int .i64 0, .slice none 0 0] 71)).cell? ⟨v4.heap.size, 0, none⟩ = some (.int .i64 0) := by simp [go_sem]
                  have bq0 : (v4.alloc (.cells #[.int .i64 0, .slice none 0 0] 71)).frozen? ⟨v4.heap.size, 0, none⟩ = false := by simp [go_sem]
                  have bp1 : (v4.alloc (.cells #[.int .i64 0, .slice none 0 0] 71)).cell? ⟨v4.heap.size, 1, none⟩ = some (.slice none 0 0) := by simp [go_sem]
                  have bq1 : (v4.alloc (.cells #[.int .i64 0, .slice none 0 0] 71)).frozen? ⟨v4.heap.size, 1, none⟩ = false := by simp [go_sem]
                  have o2 := owns_below o2 bal
                  generalize v4.alloc (.cells #[.int .i64 0, .slice none 0 0] 71) = x5W at *
                  have lPz := lt_of_cell bp0
                  refine wpAnyH_ready (rs := [9]) (by kernel_rfl) (by simp) ?_
                  refine AllReadyH.cons rfl (fun K hK => ?_) AllReadyH.nil
                  go_simp
                  refine hK.out _ _ ?_ (fun hH => ?_)
                  · exact HS.out _ ((Bx5W.setCell (p := ⟨v4.heap.size, 0, none⟩) hPA (.int .i64 c)).setCell (p := ⟨v4.heap.size, 1, none⟩) hPA (.slice a2 m2 c2))
                  clear hK K
                  refine wpAnyH_done (by kernel_rfl) ?_ _
                  refine NoPanic.normal ?_
                  go_wp2_with fail
                  go_meet
                  have zal := HZ.out
                  refine ⟨v4.heap.size, a2, m2, c2, rfl, hPA, by simp [World.setCell] <;> omega, hm2, by simp [go_sem, bp0, bp1], by simp [go_sem, bp0, bp1], ?_, fun g hg => by have := L2 g hg; omega, ((Bx5W.setCell (p := ⟨v4.heap.size, 0, none⟩) hPA (.int .i64 c)).setCell (p := ⟨v4.heap.size, 1, none⟩) hPA (.slice a2 m2 c2))⟩
                  exact owns_otherB (owns_otherB (owns_base o2 (by omega)) (fun g hg => by have := L2 g hg; omega) _) (fun g hg => by have := L2 g hg; omega) _
                focus
                  go_simp
                  refine hK.out _ _ ?_ (fun hH => ?_)
                  · exact HS.out _ (Bv3.alloc Bv3.size _)
                  clear hK K
                  have bal : Below v3.heap.size v3 (v3.alloc (.cells #[.int .i64 0, .slice none 0 0] 71)) := (Below.refl _ _).alloc (Nat.le_refl _) _
                  have hPA := Bv3.size
                  have Bx6W := Bv3.alloc Bv3.size (.cells #[.int .i64 0, .slice none 0 0] 71)
                  have HZ : Hid ((v3.alloc (.cells #[.int .i64 0, .slice none 0 0] 71)).heap.size = v3.heap.size + 1) := by show _ = _; simp
                  have bp0 : (v3.alloc (.cells #[.int .i64 0, .slice none 0 0] 71)).cell? ⟨v3.heap.size, 0, none⟩ = some (.int .i64 0) := by simp [go_sem]
                  have bq0 : (v3.alloc (.cells #[.int .i64 0, .slice none 0 0] 71)).frozen? ⟨v3.heap.size, 0, none⟩ = false := by simp [go_sem]
                  have bp1 : (v3.alloc (.cells #[.int .i64 0, .slice none 0 0] 71)).cell? ⟨v3.heap.size, 1, none⟩ = some (.slice none 0 0) := by simp [go_sem]
                  have bq1 : (v3.alloc (.cells #[.int .i64 0, .slice none 0 0] 71)).frozen? ⟨v3.heap.size, 1, none⟩ = false := by simp [go_sem]
                  have o1 := owns_below o1 bal
                  generalize v3.alloc (.cells #[.int .i64 0, .slice none 0 0] 71) = x6W at *
                  refine wpAnyH_ready (rs := [7]) (by kernel_rfl) (by simp) ?_
                  refine AllReadyH.cons rfl (fun K hK => ?_) AllReadyH.nil
                  go_simp
                  refine (II x6W _ (owns_cells o1)).mono ?_
                  rintro e v7 ⟨a2, m2, c2, rfl, hm2, o2, bv7⟩
                  have L2 := owns_lt o2
                  have Bv7 := Bx6W.trans (bv7.mono Bx6W.size)
                  have zv7 := bv7.size
                  have o1 := owns_below o1 bv7
                  have lPv7 := lt_of_cell bp0
                  have bq0 := ((bcell bv7).2 _ _ lPv7).trans bq0
                  have bq1 := ((bcell bv7).2 _ _ lPv7).trans bq1
                  have bp0 := keep_cell bv7 bp0
                  have bp1 := keep_cell bv7 bp1
                  go_wp2_with fail
                  refine hK.out _ _ ?_ (fun hH => ?_)
                  · exact HS.out _ Bv7
                  clear hK K
                  have lPz := lt_of_cell bp0
                  refine wpAnyH_ready (rs := [9]) (by kernel_rfl) (by simp) ?_
                  refine AllReadyH.cons rfl (fun K hK => ?_) AllReadyH.nil
                  go_simp
                  refine hK.out _ _ ?_ (fun hH => ?_)
                  · exact HS.out _ ((Bv7.setCell (p := ⟨v3.heap.size, 0, none⟩) hPA (.int .i64 c)).setCell (p := ⟨v3.heap.size, 1, none⟩) hPA (.slice a2 m2 c2))
                  clear hK K
                  refine wpAnyH_done (by kernel_rfl) ?_ _
                  refine NoPanic.normal ?_
                  go_wp2_with fail
                  go_meet
                  have zal := HZ.out
                  refine ⟨v3.heap.size, a2, m2, c2, rfl, hPA, by simp [World.setCell] <;> omega, hm2, by simp [go_sem, bp0, bp1], by simp [go_sem, bp0, bp1], ?_, fun g hg => by have := L2 g hg; omega, ((Bv7.setCell (p := ⟨v3.heap.size, 0, none⟩) hPA (.int .i64 c)).setCell (p := ⟨v3.heap.size, 1, none⟩) hPA (.slice a2 m2 c2))⟩
                  exact owns_otherB (owns_otherB (owns_base o2 (by omega)) (fun g hg => by have := L2 g hg; omega) _) (fun g hg => by have := L2 g hg; omega) _
              focus
                go_simp
                refine hK.out _ _ ?_ (fun hH => ?_)
                · exact HS.out _ (Bv2.alloc Bv2.size _)
                clear hK K
                have bal : Below v2.heap.size v2 (v2.alloc (.cells #[.int .i64 0, .slice none 0 0] 71)) := (Below.refl _ _).alloc (Nat.le_refl _) _
                have hPA := Bv2.size
                have Bx8W := Bv2.alloc Bv2.size (.cells #[.int .i64 0, .slice none 0 0] 71)
                have HZ : Hid ((v2.alloc (.cells #[.int .i64 0, .slice none 0 0] 71)).heap.size = v2.heap.size + 1) := by show _ = _; simp
                have bp0 : (v2.alloc (.cells #[.int .i64 0, .slice none 0 0] 71)).cell? ⟨v2.heap.size, 0, none⟩ = some (.int .i64 0) := by simp [go_sem]
                have bq0 : (v2.alloc (.cells #[.int .i64 0, .slice none 0 0] 71)).frozen? ⟨v2.heap.size, 0, none⟩ = false := by simp [go_sem]
                have bp1 : (v2.alloc (.cells #[.int .i64 0, .slice none 0 0] 71)).cell? ⟨v2.heap.size, 1, none⟩ = some (.slice none 0 0) := by simp [go_sem]
                have bq1 : (v2.alloc (.cells #[.int .i64 0, .slice none 0 0] 71)).frozen? ⟨v2.heap.size, 1, none⟩ = false := by simp [go_sem]
                have o1 := owns_below o1 bal
                generalize v2.alloc (.cells #[.int .i64 0, .slice none 0 0] 71) = x8W at *
                refine wpAnyH_ready (rs := [6]) (by kernel_rfl) (by simp) ?_
                refine AllReadyH.cons rfl (fun K hK => ?_) AllReadyH.nil
                go_simp
                refine (toBef_any nk nh nv x8W).mono ?_
                rintro e v9 ⟨rfl, bv9⟩
                have Bv9 := Bx8W.trans (bv9.mono Bx8W.size)
                have zv9 := bv9.size
                have o1 := owns_below o1 bv9
                have lPv9 := lt_of_cell bp0
                have bq0 := ((bcell bv9).2 _ _ lPv9).trans bq0
                have bq1 := ((bcell bv9).2 _ _ lPv9).trans bq1
                have bp0 := keep_cell bv9 bp0
                have bp1 := keep_cell bv9 bp1
                go_wp2_with fail
                refine hK.out _ _ ?_ (fun hH => ?_)
                · exact HS.out _ Bv9
                clear hK K
                refine wpAnyH_ready (rs := [7]) (by kernel_rfl) (by simp) ?_
                refine AllReadyH.cons rfl (fun K hK => ?_) AllReadyH.nil
                go_simp
                refine (II v9 _ (owns_cells o1)).mono ?_
                rintro e v10 ⟨a2, m2, c2, rfl, hm2, o2, bv10⟩
                have L2 := owns_lt o2
                have Bv10 := Bv9.trans (bv10.mono Bv9.size)
                have zv10 := bv10.size
                have o1 := owns_below o1 bv10
                have lPv10 := lt_of_cell bp0
                have bq0 := ((bcell bv10).2 _ _ lPv10).trans bq0
                have bq1 := ((bcell bv10).2 _ _ lPv10).trans bq1
                have bp0 := keep_cell bv10 bp0
                have bp1 := keep_cell bv10 bp1
                go_wp2_with fail
                refine hK.out _ _ ?_ (fun hH => ?_)
                · exact HS.out _ Bv10
                clear hK K
                have lPz := lt_of_cell bp0
                refine wpAnyH_ready (rs := [9]) (by kernel_rfl) (by simp) ?_
                refine AllReadyH.cons rfl (fun K hK => ?_) AllReadyH.nil
                go_simp
                refine hK.out _ _ ?_ (fun hH => ?_)
                · exact HS.out _ ((Bv10.setCell (p := ⟨v2.heap.size, 0, none⟩) hPA (.int .i64 c)).setCell (p := ⟨v2.heap.size, 1, none⟩) hPA (.slice a2 m2 c2))
                clear hK K
                refine wpAnyH_done (by kernel_rfl) ?_ _
                refine NoPanic.normal ?_
                go_wp2_with fail
                go_meet
                have zal := HZ.out
                refine ⟨v2.heap.size, a2, m2, c2, rfl, hPA, by simp [World.setCell] <;> omega, hm2, by simp [go_sem, bp0, bp1], by simp [go_sem, bp0, bp1], ?_, fun g hg => by have := L2 g hg; omega, ((Bv10.setCell (p := ⟨v2.heap.size, 0, none⟩) hPA (.int .i64 c)).setCell (p := ⟨v2.heap.size, 1, none⟩) hPA (.slice a2 m2 c2))⟩
                exact owns_otherB (owns_otherB (owns_base o2 (by omega)) (fun g hg => by have := L2 g hg; omega) _) (fun g hg => by have := L2 g hg; omega) _
            focus
              go_simp
              refine hK.out _ _ ?_ (fun hH => ?_)
              · exact HS.out _ (Bv1.alloc Bv1.size _)
              clear hK K
              have bal : Below v1.heap.size v1 (v1.alloc (.cells #[.int .i64 0, .slice none 0 0] 71)) := (Below.refl _ _).alloc (Nat.le_refl _) _
              have hPA := Bv1.size
              have Bx11W := Bv1.alloc Bv1.size (.cells #[.int .i64 0, .slice none 0 0] 71)
              have HZ : Hid ((v1.alloc (.cells #[.int .i64 0, .slice none 0 0] 71)).heap.size = v1.heap.size + 1) := by show _ = _; simp
              have bp0 : (v1.alloc (.cells #[.int .i64 0, .slice none 0 0] 71)).cell? ⟨v1.heap.size, 0, none⟩ = some (.int .i64 0) := by simp [go_sem]
              have bq0 : (v1.alloc (.cells #[.int .i64 0, .slice none 0 0] 71)).frozen? ⟨v1.heap.size, 0, none⟩ = false := by simp [go_sem]
              have bp1 : (v1.alloc (.cells #[.int .i64 0, .slice none 0 0] 71)).cell? ⟨v1.heap.size, 1, none⟩ = some (.slice none 0 0) := by simp [go_sem]
              have bq1 : (v1.alloc (.cells #[.int .i64 0, .slice none 0 0] 71)).frozen? ⟨v1.heap.size, 1, none⟩ = false := by simp [go_sem]
              have o1 := owns_below o1 bal
              generalize v1.alloc (.cells #[.int .i64 0, .slice none 0 0] 71) = x11W at *
              refine wpAnyH_ready (rs := [4]) (by kernel_rfl) (by simp) ?_
              refine AllReadyH.cons rfl (fun K hK => ?_) AllReadyH.nil
              go_simp
              refine (toBef_any ok oh ov x11W).mono ?_
              rintro e v12 ⟨rfl, bv12⟩
              have Bv12 := Bx11W.trans (bv12.mono Bx11W.size)
              have zv12 := bv12.size
              have o1 := owns_below o1 bv12
              have lPv12 := lt_of_cell bp0
              have bq0 := ((bcell bv12).2 _ _ lPv12).trans bq0
              have bq1 := ((bcell bv12).2 _ _ lPv12).trans bq1
              have bp0 := keep_cell bv12 bp0
              have bp1 := keep_cell bv12 bp1
              go_wp2_with fail
              refine hK.out _ _ ?_ (fun hH => ?_)
              · exact HS.out _ Bv12
              clear hK K
              refine wpAnyH_ready (rs := [6]) (by kernel_rfl) (by simp) ?_
              refine AllReadyH.cons rfl (fun K hK => ?_) AllReadyH.nil
              go_simp
              refine (toBef_any nk nh nv v12).mono ?_
              rintro e v13 ⟨rfl, bv13⟩
              have Bv13 := Bv12.trans (bv13.mono Bv12.size)
              have zv13 := bv13.size
              have o1 := owns_below o1 bv13
              have lPv13 := lt_of_cell bp0
              have bq0 := ((bcell bv13).2 _ _ lPv13).trans bq0
              have bq1 := ((bcell bv13).2 _ _ lPv13).trans bq1
              have bp0 := keep_cell bv13 bp0
              have bp1 := keep_cell bv13 bp1
              go_wp2_with fail
              refine hK.out _ _ ?_ (fun hH => ?_)
              · exact HS.out _ Bv13
              clear hK K
              refine wpAnyH_ready (rs := [7]) (by kernel_rfl) (by simp) ?_
              refine AllReadyH.cons rfl (fun K hK => ?_) AllReadyH.nil
              go_simp
              refine (II v13 _ (owns_cells o1)).mono ?_
              rintro e v14 ⟨a2, m2, c2, rfl, hm2, o2, bv14⟩
              have L2 := owns_lt o2
              have Bv14 := Bv13.trans (bv14.mono Bv13.size)
              have zv14 := bv14.size
              have o1 := owns_below o1 bv14
              have lPv14 := lt_of_cell bp0
              have bq0 := ((bcell bv14).2 _ _ lPv14).trans bq0
              have bq1 := ((bcell bv14).2 _ _ lPv14).trans bq1
              have bp0 := keep_cell bv14 bp0
              have bp1 := keep_cell bv14 bp1
              go_wp2_with fail
              refine hK.out _ _ ?_ (fun hH => ?_)
              · exact HS.out _ Bv14
              clear hK K
              have lPz := lt_of_cell bp0
              refine wpAnyH_ready (rs := [9]) (by kernel_rfl) (by simp) ?_
              refine AllReadyH.cons rfl (fun K hK => ?_) AllReadyH.nil
              go_simp
              refine hK.out _ _ ?_ (fun hH => ?_)
              · exact HS.out _ ((Bv14.setCell (p := ⟨v1.heap.size, 0, none⟩) hPA (.int .i64 c)).setCell (p := ⟨v1.heap.size, 1, none⟩) hPA (.slice a2 m2 c2))
              clear hK K
              refine wpAnyH_done (by kernel_rfl) ?_ _
              refine NoPanic.normal ?_
              go_wp2_with fail
              go_meet
              have zal := HZ.out
              refine ⟨v1.heap.size, a2, m2, c2, rfl, hPA, by simp [World.setCell] <;> omega, hm2, by simp [go_sem, bp0, bp1], by simp [go_sem, bp0, bp1], ?_, fun g hg => by have := L2 g hg; omega, ((Bv14.setCell (p := ⟨v1.heap.size, 0, none⟩) hPA (.int .i64 c)).setCell (p := ⟨v1.heap.size, 1, none⟩) hPA (.slice a2 m2 c2))⟩
              exact owns_otherB (owns_otherB (owns_base o2 (by omega)) (fun g hg => by have := L2 g hg; omega) _) (fun g hg => by have := L2 g hg; omega) _
          focus
            go_simp
            refine hK.out _ _ ?_ (fun hH => ?_)
            · exact HS.out _ (bd.alloc bd.size _)
            clear hK K
            have bal : Below wd.heap.size wd (wd.alloc (.cells #[.int .i64 0, .slice none 0 0] 71)) := (Below.refl _ _).alloc (Nat.le_refl _) _
            have hPA := bd.size
            have Bx15W := bd.alloc bd.size (.cells #[.int .i64 0, .slice none 0 0] 71)
            have HZ : Hid ((wd.alloc (.cells #[.int .i64 0, .slice none 0 0] 71)).heap.size = wd.heap.size + 1) := by show _ = _; simp
            have bp0 : (wd.alloc (.cells #[.int .i64 0, .slice none 0 0] 71)).cell? ⟨wd.heap.size, 0, none⟩ = some (.int .i64 0) := by simp [go_sem]
            have bq0 : (wd.alloc (.cells #[.int .i64 0, .slice none 0 0] 71)).frozen? ⟨wd.heap.size, 0, none⟩ = false := by simp [go_sem]
            have bp1 : (wd.alloc (.cells #[.int .i64 0, .slice none 0 0] 71)).cell? ⟨wd.heap.size, 1, none⟩ = some (.slice none 0 0) := by simp [go_sem]
            have bq1 : (wd.alloc (.cells #[.int .i64 0, .slice none 0 0] 71)).frozen? ⟨wd.heap.size, 1, none⟩ = false := by simp [go_sem]
            generalize wd.alloc (.cells #[.int .i64 0, .slice none 0 0] 71) = x15W at *
            refine wpAnyH_ready (rs := [1]) (by kernel_rfl) (by simp) ?_
            refine AllReadyH.cons rfl (fun K hK => ?_) AllReadyH.nil
            go_simp
            refine (toPairS_any a n cap ps x15W (h12.below Bx15W) hs).mono ?_
            rintro e v16 ⟨rfl, o1, bv16⟩
            have Bv16 := Bx15W.trans (bv16.mono Bx15W.size)
            have zv16 := bv16.size
            have lPv16 := lt_of_cell bp0
            have bq0 := ((bcell bv16).2 _ _ lPv16).trans bq0
            have bq1 := ((bcell bv16).2 _ _ lPv16).trans bq1
            have bp0 := keep_cell bv16 bp0
            have bp1 := keep_cell bv16 bp1
            go_wp2_with fail
            refine hK.out _ _ ?_ (fun hH => ?_)
            · exact HS.out _ Bv16
            clear hK K
            refine wpAnyH_ready (rs := [4]) (by kernel_rfl) (by simp) ?_
            refine AllReadyH.cons rfl (fun K hK => ?_) AllReadyH.nil
            go_simp
            refine (toBef_any ok oh ov v16).mono ?_
            rintro e v17 ⟨rfl, bv17⟩
            have Bv17 := Bv16.trans (bv17.mono Bv16.size)
            have zv17 := bv17.size
            have o1 := owns_below o1 bv17
            have lPv17 := lt_of_cell bp0
            have bq0 := ((bcell bv17).2 _ _ lPv17).trans bq0
            have bq1 := ((bcell bv17).2 _ _ lPv17).trans bq1
            have bp0 := keep_cell bv17 bp0
            have bp1 := keep_cell bv17 bp1
            go_wp2_with fail
            refine hK.out _ _ ?_ (fun hH => ?_)
            · exact HS.out _ Bv17
            clear hK K
            refine wpAnyH_ready (rs := [6]) (by kernel_rfl) (by simp) ?_
            refine AllReadyH.cons rfl (fun K hK => ?_) AllReadyH.nil
            go_simp
            refine (toBef_any nk nh nv v17).mono ?_
            rintro e v18 ⟨rfl, bv18⟩
            have Bv18 := Bv17.trans (bv18.mono Bv17.size)
            have zv18 := bv18.size
            have o1 := owns_below o1 bv18
            have lPv18 := lt_of_cell bp0
            have bq0 := ((bcell bv18).2 _ _ lPv18).trans bq0
            have bq1 := ((bcell bv18).2 _ _ lPv18).trans bq1
            have bp0 := keep_cell bv18 bp0
            have bp1 := keep_cell bv18 bp1
            go_wp2_with fail
            refine hK.out _ _ ?_ (fun hH => ?_)
            · exact HS.out _ Bv18
            clear hK K
            refine wpAnyH_ready (rs := [7]) (by kernel_rfl) (by simp) ?_
            refine AllReadyH.cons rfl (fun K hK => ?_) AllReadyH.nil
            go_simp
            refine (II v18 _ (owns_cells o1)).mono ?_
            rintro e v19 ⟨a2, m2, c2, rfl, hm2, o2, bv19⟩
            have L2 := owns_lt o2
            have Bv19 := Bv18.trans (bv19.mono Bv18.size)
            have zv19 := bv19.size
            have o1 := owns_below o1 bv19
            have lPv19 := lt_of_cell bp0
            have bq0 := ((bcell bv19).2 _ _ lPv19).trans bq0
            have bq1 := ((bcell bv19).2 _ _ lPv19).trans bq1
            have bp0 := keep_cell bv19 bp0
            have bp1 := keep_cell bv19 bp1
            go_wp2_with fail
            refine hK.out _ _ ?_ (fun hH => ?_)
            · exact HS.out _ Bv19
            clear hK K
            have lPz := lt_of_cell bp0
            refine wpAnyH_ready (rs := [9]) (by kernel_rfl) (by simp) ?_
            refine AllReadyH.cons rfl (fun K hK => ?_) AllReadyH.nil
            go_simp
            refine hK.out _ _ ?_ (fun hH => ?_)
            · exact HS.out _ ((Bv19.setCell (p := ⟨wd.heap.size, 0, none⟩) hPA (.int .i64 c)).setCell (p := ⟨wd.heap.size, 1, none⟩) hPA (.slice a2 m2 c2))
            clear hK K
            refine wpAnyH_done (by kernel_rfl) ?_ _
            refine NoPanic.normal ?_
            go_wp2_with fail
            go_meet
            have zal := HZ.out
            refine ⟨wd.heap.size, a2, m2, c2, rfl, hPA, by simp [World.setCell] <;> omega, hm2, by simp [go_sem, bp0, bp1], by simp [go_sem, bp0, bp1], ?_, fun g hg => by have := L2 g hg; omega, ((Bv19.setCell (p := ⟨wd.heap.size, 0, none⟩) hPA (.int .i64 c)).setCell (p := ⟨wd.heap.size, 1, none⟩) hPA (.slice a2 m2 c2))⟩
            exact owns_otherB (owns_otherB (owns_base o2 (by omega)) (fun g hg => by have := L2 g hg; omega) _) (fun g hg => by have := L2 g hg; omega) _
        case rest =>
          obtain ⟨w13, hwn⟩ : ∃ x : World, x = wc := ⟨_, rfl⟩
          subst hwn
          obtain ⟨P16, a13, m13, c13, rfl, ⟨hp0, hp1, hm13, u0, u1, o13, hne13, b13⟩⟩ := hcut
          have b13' := b12'.trans (b13.mono b12'.size)
          have o2 := owns_below o2 b13
          have o5 := owns_below o5 b13
          have x0 := keep_cell b13 x0
          have x1 := keep_cell b13 x1
          have y0 := keep_cell b13 y0
          have y1 := keep_cell b13 y1
          have HM : m13 = m4 := by have e2 := o2.1; have e4 := o13.1; omega
          subst HM
          have l1 := lt_of_cell x0
          have l2 := lt_of_cell y0
          go_wp2_with fail
          refine (eqPairsResult_same _ a13 a2 m13 c13 c2 rs _ (owns_cells o13) (owns_cells o2) (by omega)).mono ?_
          rintro e w14 ⟨rfl, b14⟩
          have b14' := b13'.trans (b14.mono b13'.size)
          have o5 := owns_below o5 b14
          have y0 := keep_cell b14 y0
          have y1 := keep_cell b14 y1
          clear b13 b13' b14
          go_wp2_with fail
          refine (heldPairsResult_any _ a4 m13 c4 _ (owns_cells o5) (by omega)).mono ?_
          rintro e w15 ⟨rfl, b15⟩
          go_wp2
          go_ret
          exact ⟨rfl, bw0.trans ((b14'.trans (b15.mono b14'.size)).mono bw0.size)⟩
end Go.Proofs.Ythfanfnbjldddaa
