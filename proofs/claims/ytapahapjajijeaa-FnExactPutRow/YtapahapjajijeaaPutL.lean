/- The law FnExactPutRow. -/
import Derived.Test.YtapahapjajijeaaPutH
import Derived.Test.YtapahapjajijeaaDropL
namespace Go.Proofs.Ytapahapjajijeaa
open Go.RowKit

theorem Ch.putR_small {ls : List (List Ch.Row)} (r : Ch.Row) : Ch.lvSize (Ch.putR ls r).2 ≤ 1048576 := by
  unfold Ch.putR
  split
  · simp [Ch.lvSize]
  · split
    · simp [Ch.lvSize]
    · split
      · simp [Ch.lvSize]
      · rename_i h _ _
        exact Ch.put_size (by simpa using h)
theorem OwnV.base {w : World} {B B' n : Nat} {v : Value} {vs : List Value} {ls : List (List Ch.Row)} (h : OwnV w B v n vs ls) (hb : B' ≤ B) : OwnV w B' v n vs ls := by
  obtain ⟨hl, ho, hi, hd, hd'⟩ := h
  refine ⟨hl, owns_base ho hb, fun i hlt => ?_, hd, hd'⟩
  obtain ⟨x, h1, h2⟩ := hi i hlt
  exact ⟨x, h1, owns_base h2 hb⟩
theorem OwnV.store {w : World} {B n : Nat} {v : Value} {vs : List Value} {ls : List (List Ch.Row)} (h : OwnV w B v n vs ls) {p o : Nat} {u : Value} (hv : ∀ g, v.ownBlock = some g → g ≠ p) (hx : ∀ (i : Nat) (x : Value) (g : Nat), vs[i]? = some x → x.ownBlock = some g → g ≠ p) : OwnV (w.setCell ⟨p, o, none⟩ u) B v n vs ls := by
  obtain ⟨hl, ho, hi, hd, hd'⟩ := h
  refine ⟨hl, owns_set ho hv u, fun i hlt => ?_, hd, hd'⟩
  obtain ⟨x, h1, h2⟩ := hi i hlt
  exact ⟨x, h1, owns_set h2 (fun g hg => hx i x g h1 hg) u⟩
/-- A result of leaves in its box: P; its lists lie from lo to hi. -/
def PutAt (wx W0 : World) (P : Nat) (c : Int) (a2 : Option Addr) (m2 c2 : Nat) (vs2 : List Value) (rs : List (List Ch.Row)) (lo hi : Nat) : Prop :=
  W0.heap.size ≤ P ∧ P < wx.heap.size ∧ W0.heap.size ≤ lo ∧ hi ≤ wx.heap.size ∧ (P < lo ∨ hi ≤ P) ∧ wx.cell? ⟨P, 0, none⟩ = some (.int .i64 c) ∧ wx.cell? ⟨P, 1, none⟩ = some (.slice a2 m2 c2) ∧ OwnV wx W0.heap.size (.slice a2 m2 c2) m2 vs2 rs ∧
    (∀ g, (Value.slice a2 m2 c2).ownBlock = some g → lo ≤ g ∧ g < hi) ∧ (∀ (i : Nat) (x : Value) (g : Nat), vs2[i]? = some x → x.ownBlock = some g → lo ≤ g ∧ g < hi) ∧ Below W0.heap.size W0 wx

set_option linter.unusedSimpArgs false in
set_option maxRecDepth 100000 in
set_option maxHeartbeats 8000000 in
theorem lawPutRow_any (a : Option Addr) (n cap : Nat) (rk rv : Int) (rg : Bool) (ls : List (List Ch.Row)) (w : World) (h : LvAt w a n ls) (hm : n ≤ 9223372036854775807) :
    Calls Try.prog 11 #[.slice a n cap, .agg #[.int .i64 rk, .int .i64 rv, .bool rg]] w fun e w' => e = .returned (.bool true) ∧ Below w.heap.size w w' := by
  have ba : ∀ t, Below w.heap.size w (w.alloc (.cells #[.int .i64 rk, .int .i64 rv, .bool rg] t)) := fun t => (Below.refl _ _).alloc (Nat.le_refl _) _
  by_cases hbig : 1048576 < Ch.lvSize ls
  · go_enter Try.func11, Try.ntmps11
    go_wp2_with fail
    refine (szLeafS_any a n cap ls _ (h.below (ba _)) hm).mono ?_
    rintro e w1 ⟨rfl, b1⟩
    rw [← Ch.lvLeft_big hbig]
    go_wp2
    go_ret
    exact ⟨rfl, below_box b1⟩
  · have hs : Ch.lvSize ls ≤ 1048576 := by omega
    have hl : Ch.lvLeft ls = 1048576 - (Ch.lvSize ls : Int) := by rw [Ch.lvLeft, if_pos hs]
    have hl0 : ¬ Ch.lvLeft ls < 0 := by omega
    have hsa := small_at hs
    clear hbig
    have SI := fun (W : World) (A : Option Addr) (hW : LvAt W A n ls) => specPutRow_any A n n ls rk rv rg W hW hs
    have II := fun (W : World) (A : Option Addr) (hW : LvAt W A n ls) => implPutRow_any A n n ls rk rv rg W hW hs
    have hrs : Ch.lvSize (Ch.putR ls ⟨rk, rv, rg⟩).2 ≤ 1048576 := Ch.putR_small _
    generalize (Ch.putR ls ⟨rk, rv, rg⟩).1 = c at SI II
    generalize (Ch.putR ls ⟨rk, rv, rg⟩).2 = rs at SI II hrs
    have hra := small_at hrs
    go_enter Try.func11, Try.ntmps11
    go_wp2_with fail
    refine (szLeafS_any a n cap ls _ (h.below (ba _)) hm).mono ?_
    rintro e w0 ⟨rfl, bz⟩
    generalize Ch.lvLeft ls = L at *
    have r0 := box_cell bz 0
    have r1 := box_cell bz 1
    have r2 := box_cell bz 2
    simp at r0 r1 r2
    have bw0 := below_box bz
    have h0 := h.below bw0
    have zr0 := lt_of_cell r0
    clear bz ba
    go_upto_region 5 with fail
    go_cut [6] (fun s wx => ∃ P a2 m2 c2 vs2 lo hi, s = .pointer (some ⟨P, 0, none⟩) ∧ PutAt wx w0 P c a2 m2 c2 vs2 rs lo hi)
    case first =>
      refine wp_region_noPanic ?_
      refine wp_region_held_drew (S := fun W' => W'.cell? ⟨w.heap.size, 0, none⟩ = some (.int .i64 rk) ∧ W'.cell? ⟨w.heap.size, 1, none⟩ = some (.int .i64 rv) ∧ W'.cell? ⟨w.heap.size, 2, none⟩ = some (.bool rg)) (by kernel_rfl) (⟨r0, r1, r2⟩) (fun hH => ?_)
      refine hTake (i := 0) (v := ?_) rfl (by kernel_rfl) (by kernel_rfl) (by kernel_rfl) (by rfl) ?_ hH ?_
      rotate_left
      · intro W hW; (try dsimp only at hW); go_simp <;> with_reducible rfl
      simp only [Act.put, List.setIfInBounds_toArray, List.set_cons_zero, List.set_cons_succ]
      refine hTake (i := 2) (v := ?_) rfl (by kernel_rfl) (by kernel_rfl) (by kernel_rfl) (by rfl) ?_ hH ?_
      rotate_left
      · intro W hW; (try dsimp only at hW); go_simp <;> with_reducible rfl
      simp only [Act.put, List.setIfInBounds_toArray, List.set_cons_zero, List.set_cons_succ]
      have HS : Hid (∀ W', Below w0.heap.size w0 W' → W'.cell? ⟨w.heap.size, 0, none⟩ = some (.int .i64 rk) ∧ W'.cell? ⟨w.heap.size, 1, none⟩ = some (.int .i64 rv) ∧ W'.cell? ⟨w.heap.size, 2, none⟩ = some (.bool rg)) := fun W' hW => ⟨keep_cell hW r0, keep_cell hW r1, keep_cell hW r2⟩
      have bd : Below w0.heap.size w0 w0.drew := (Below.refl _ _).drew
      have zd := bd.size
      generalize w0.drew = wd at *
      refine wpAnyH_ready (rs := [1, 5]) (by kernel_rfl) (by simp) ?_
      refine AllReadyH.cons rfl (fun K hK => ?_) (AllReadyH.cons rfl (fun K hK => ?_) AllReadyH.nil)
      focus
        go_simp
        refine (toLeafS_any a n cap ls wd (h0.below bd) hs).mono ?_
        rintro e v1 ⟨rfl, o1, bv1⟩
        have Bv1 := bd.trans (bv1.mono bd.size)
        have zv1 := bv1.size
        go_wp2_with fail
        refine hK.out _ _ ?_ (fun hH => ?_)
        · exact HS.out _ Bv1
        clear hK K
        refine wpAnyH_ready (rs := [3, 5]) (by kernel_rfl) (by simp) ?_
        refine AllReadyH.cons rfl (fun K hK => ?_) (AllReadyH.cons rfl (fun K hK => ?_) AllReadyH.nil)
        focus
          go_simp
          refine (toRow_any rk rv rg v1).mono ?_
          rintro e v2 ⟨rfl, bv2⟩
          have Bv2 := Bv1.trans (bv2.mono Bv1.size)
          have zv2 := bv2.size
          have o1 := o1.below bv2
          go_wp2_with fail
          refine hK.out _ _ ?_ (fun hH => ?_)
          · exact HS.out _ Bv2
          clear hK K
          refine wpAnyH_ready (rs := [4, 5]) (by kernel_rfl) (by simp) ?_
          refine AllReadyH.cons rfl (fun K hK => ?_) (AllReadyH.cons rfl (fun K hK => ?_) AllReadyH.nil)
          focus
            go_simp
            refine (SI v2 _ (o1.at hsa)).mono ?_
            rintro e v3 ⟨a2, m2, c2, rfl, o2, bv3⟩
            obtain ⟨vs2, o2⟩ := o2.told
            have K2 := owns_lt o2.2.1
            have L2 := o2.lt
            have Bv3 := Bv2.trans (bv3.mono Bv2.size)
            have zv3 := bv3.size
            have o1 := o1.below bv3
            go_wp2_with fail
            refine hK.out _ _ ?_ (fun hH => ?_)
            · exact HS.out _ Bv3
            clear hK K
            refine wpAnyH_ready (rs := [5]) (by kernel_rfl) (by simp) ?_
            refine AllReadyH.cons rfl (fun K hK => ?_) AllReadyH.nil
            go_simp
            refine hK.out _ _ ?_ (fun hH => ?_)
            · exact HS.out _ (Bv3.alloc Bv3.size _)
            clear hK K
            have bal : Below v3.heap.size v3 (v3.alloc (.cells #[.int .i64 0, .slice none 0 0] 52)) := (Below.refl _ _).alloc (Nat.le_refl _) _
            have hPA := Bv3.size
            have Bx4W := Bv3.alloc Bv3.size (.cells #[.int .i64 0, .slice none 0 0] 52)
            have HZ : Hid ((v3.alloc (.cells #[.int .i64 0, .slice none 0 0] 52)).heap.size = v3.heap.size + 1) := by show _ = _; simp
            have bp0 : (v3.alloc (.cells #[.int .i64 0, .slice none 0 0] 52)).cell? ⟨v3.heap.size, 0, none⟩ = some (.int .i64 0) := by simp [go_sem]
            have bq0 : (v3.alloc (.cells #[.int .i64 0, .slice none 0 0] 52)).frozen? ⟨v3.heap.size, 0, none⟩ = false := by simp [go_sem]
            have bp1 : (v3.alloc (.cells #[.int .i64 0, .slice none 0 0] 52)).cell? ⟨v3.heap.size, 1, none⟩ = some (.slice none 0 0) := by simp [go_sem]
            have bq1 : (v3.alloc (.cells #[.int .i64 0, .slice none 0 0] 52)).frozen? ⟨v3.heap.size, 1, none⟩ = false := by simp [go_sem]
            have o2 := o2.below bal
            generalize v3.alloc (.cells #[.int .i64 0, .slice none 0 0] 52) = x4W at *
            have lPz := lt_of_cell bp0
            refine wpAnyH_ready (rs := [6]) (by kernel_rfl) (by simp) ?_
            refine AllReadyH.cons rfl (fun K hK => ?_) AllReadyH.nil
            go_simp
            refine hK.out _ _ ?_ (fun hH => ?_)
            · exact HS.out _ ((Bx4W.setCell (p := ⟨v3.heap.size, 0, none⟩) hPA (.int .i64 c)).setCell (p := ⟨v3.heap.size, 1, none⟩) hPA (.slice a2 m2 c2))
            clear hK K
            refine wpAnyH_done (by kernel_rfl) ?_ _
            refine NoPanic.normal ?_
            go_wp2_with fail
            go_meet
            have zal := HZ.out
            refine ⟨v3.heap.size, a2, m2, c2, vs2, v2.heap.size, v3.heap.size, rfl, hPA, by simp [World.setCell] <;> omega, by omega, by simp [World.setCell] <;> omega, by omega, by simp [go_sem, bp0, bp1], by simp [go_sem, bp0, bp1], ?_, K2, L2, ((Bx4W.setCell (p := ⟨v3.heap.size, 0, none⟩) hPA (.int .i64 c)).setCell (p := ⟨v3.heap.size, 1, none⟩) hPA (.slice a2 m2 c2))⟩
            exact ((o2.base (by omega)).store (fun g hg => by have := K2 g hg; omega) (fun i x g hx hg => by have := L2 i x g hx hg; omega)).store (fun g hg => by have := K2 g hg; omega) (fun i x g hx hg => by have := L2 i x g hx hg; omega)
          focus
            go_simp
            refine hK.out _ _ ?_ (fun hH => ?_)
            · exact HS.out _ (Bv2.alloc Bv2.size _)
            clear hK K
            have bal : Below v2.heap.size v2 (v2.alloc (.cells #[.int .i64 0, .slice none 0 0] 52)) := (Below.refl _ _).alloc (Nat.le_refl _) _
            have hPA := Bv2.size
            have Bx5W := Bv2.alloc Bv2.size (.cells #[.int .i64 0, .slice none 0 0] 52)
            have HZ : Hid ((v2.alloc (.cells #[.int .i64 0, .slice none 0 0] 52)).heap.size = v2.heap.size + 1) := by show _ = _; simp
            have bp0 : (v2.alloc (.cells #[.int .i64 0, .slice none 0 0] 52)).cell? ⟨v2.heap.size, 0, none⟩ = some (.int .i64 0) := by simp [go_sem]
            have bq0 : (v2.alloc (.cells #[.int .i64 0, .slice none 0 0] 52)).frozen? ⟨v2.heap.size, 0, none⟩ = false := by simp [go_sem]
            have bp1 : (v2.alloc (.cells #[.int .i64 0, .slice none 0 0] 52)).cell? ⟨v2.heap.size, 1, none⟩ = some (.slice none 0 0) := by simp [go_sem]
            have bq1 : (v2.alloc (.cells #[.int .i64 0, .slice none 0 0] 52)).frozen? ⟨v2.heap.size, 1, none⟩ = false := by simp [go_sem]
            have o1 := o1.below bal
            generalize v2.alloc (.cells #[.int .i64 0, .slice none 0 0] 52) = x5W at *
            refine wpAnyH_ready (rs := [4]) (by kernel_rfl) (by simp) ?_
            refine AllReadyH.cons rfl (fun K hK => ?_) AllReadyH.nil
            go_simp
            refine (SI x5W _ (o1.at hsa)).mono ?_
            rintro e v6 ⟨a2, m2, c2, rfl, o2, bv6⟩
            obtain ⟨vs2, o2⟩ := o2.told
            have K2 := owns_lt o2.2.1
            have L2 := o2.lt
            have Bv6 := Bx5W.trans (bv6.mono Bx5W.size)
            have zv6 := bv6.size
            have o1 := o1.below bv6
            have lPv6 := lt_of_cell bp0
            have bq0 := ((bcell bv6).2 _ _ lPv6).trans bq0
            have bq1 := ((bcell bv6).2 _ _ lPv6).trans bq1
            have bp0 := keep_cell bv6 bp0
            have bp1 := keep_cell bv6 bp1
            go_wp2_with fail
            refine hK.out _ _ ?_ (fun hH => ?_)
            · exact HS.out _ Bv6
            clear hK K
            have lPz := lt_of_cell bp0
            refine wpAnyH_ready (rs := [6]) (by kernel_rfl) (by simp) ?_
            refine AllReadyH.cons rfl (fun K hK => ?_) AllReadyH.nil
            go_simp
            refine hK.out _ _ ?_ (fun hH => ?_)
            · exact HS.out _ ((Bv6.setCell (p := ⟨v2.heap.size, 0, none⟩) hPA (.int .i64 c)).setCell (p := ⟨v2.heap.size, 1, none⟩) hPA (.slice a2 m2 c2))
            clear hK K
            refine wpAnyH_done (by kernel_rfl) ?_ _
            refine NoPanic.normal ?_
            go_wp2_with fail
            go_meet
            have zal := HZ.out
            refine ⟨v2.heap.size, a2, m2, c2, vs2, x5W.heap.size, v6.heap.size, rfl, hPA, by simp [World.setCell] <;> omega, by omega, by simp [World.setCell] <;> omega, by omega, by simp [go_sem, bp0, bp1], by simp [go_sem, bp0, bp1], ?_, K2, L2, ((Bv6.setCell (p := ⟨v2.heap.size, 0, none⟩) hPA (.int .i64 c)).setCell (p := ⟨v2.heap.size, 1, none⟩) hPA (.slice a2 m2 c2))⟩
            exact ((o2.base (by omega)).store (fun g hg => by have := K2 g hg; omega) (fun i x g hx hg => by have := L2 i x g hx hg; omega)).store (fun g hg => by have := K2 g hg; omega) (fun i x g hx hg => by have := L2 i x g hx hg; omega)
        focus
          go_simp
          refine hK.out _ _ ?_ (fun hH => ?_)
          · exact HS.out _ (Bv1.alloc Bv1.size _)
          clear hK K
          have bal : Below v1.heap.size v1 (v1.alloc (.cells #[.int .i64 0, .slice none 0 0] 52)) := (Below.refl _ _).alloc (Nat.le_refl _) _
          have hPA := Bv1.size
          have Bx7W := Bv1.alloc Bv1.size (.cells #[.int .i64 0, .slice none 0 0] 52)
          have HZ : Hid ((v1.alloc (.cells #[.int .i64 0, .slice none 0 0] 52)).heap.size = v1.heap.size + 1) := by show _ = _; simp
          have bp0 : (v1.alloc (.cells #[.int .i64 0, .slice none 0 0] 52)).cell? ⟨v1.heap.size, 0, none⟩ = some (.int .i64 0) := by simp [go_sem]
          have bq0 : (v1.alloc (.cells #[.int .i64 0, .slice none 0 0] 52)).frozen? ⟨v1.heap.size, 0, none⟩ = false := by simp [go_sem]
          have bp1 : (v1.alloc (.cells #[.int .i64 0, .slice none 0 0] 52)).cell? ⟨v1.heap.size, 1, none⟩ = some (.slice none 0 0) := by simp [go_sem]
          have bq1 : (v1.alloc (.cells #[.int .i64 0, .slice none 0 0] 52)).frozen? ⟨v1.heap.size, 1, none⟩ = false := by simp [go_sem]
          have o1 := o1.below bal
          generalize v1.alloc (.cells #[.int .i64 0, .slice none 0 0] 52) = x7W at *
          refine wpAnyH_ready (rs := [3]) (by kernel_rfl) (by simp) ?_
          refine AllReadyH.cons rfl (fun K hK => ?_) AllReadyH.nil
          go_simp
          refine (toRow_any rk rv rg x7W).mono ?_
          rintro e v8 ⟨rfl, bv8⟩
          have Bv8 := Bx7W.trans (bv8.mono Bx7W.size)
          have zv8 := bv8.size
          have o1 := o1.below bv8
          have lPv8 := lt_of_cell bp0
          have bq0 := ((bcell bv8).2 _ _ lPv8).trans bq0
          have bq1 := ((bcell bv8).2 _ _ lPv8).trans bq1
          have bp0 := keep_cell bv8 bp0
          have bp1 := keep_cell bv8 bp1
          go_wp2_with fail
          refine hK.out _ _ ?_ (fun hH => ?_)
          · exact HS.out _ Bv8
          clear hK K
          refine wpAnyH_ready (rs := [4]) (by kernel_rfl) (by simp) ?_
          refine AllReadyH.cons rfl (fun K hK => ?_) AllReadyH.nil
          go_simp
          refine (SI v8 _ (o1.at hsa)).mono ?_
          rintro e v9 ⟨a2, m2, c2, rfl, o2, bv9⟩
          obtain ⟨vs2, o2⟩ := o2.told
          have K2 := owns_lt o2.2.1
          have L2 := o2.lt
          have Bv9 := Bv8.trans (bv9.mono Bv8.size)
          have zv9 := bv9.size
          have o1 := o1.below bv9
          have lPv9 := lt_of_cell bp0
          have bq0 := ((bcell bv9).2 _ _ lPv9).trans bq0
          have bq1 := ((bcell bv9).2 _ _ lPv9).trans bq1
          have bp0 := keep_cell bv9 bp0
          have bp1 := keep_cell bv9 bp1
          go_wp2_with fail
          refine hK.out _ _ ?_ (fun hH => ?_)
          · exact HS.out _ Bv9
          clear hK K
          have lPz := lt_of_cell bp0
          refine wpAnyH_ready (rs := [6]) (by kernel_rfl) (by simp) ?_
          refine AllReadyH.cons rfl (fun K hK => ?_) AllReadyH.nil
          go_simp
          refine hK.out _ _ ?_ (fun hH => ?_)
          · exact HS.out _ ((Bv9.setCell (p := ⟨v1.heap.size, 0, none⟩) hPA (.int .i64 c)).setCell (p := ⟨v1.heap.size, 1, none⟩) hPA (.slice a2 m2 c2))
          clear hK K
          refine wpAnyH_done (by kernel_rfl) ?_ _
          refine NoPanic.normal ?_
          go_wp2_with fail
          go_meet
          have zal := HZ.out
          refine ⟨v1.heap.size, a2, m2, c2, vs2, v8.heap.size, v9.heap.size, rfl, hPA, by simp [World.setCell] <;> omega, by omega, by simp [World.setCell] <;> omega, by omega, by simp [go_sem, bp0, bp1], by simp [go_sem, bp0, bp1], ?_, K2, L2, ((Bv9.setCell (p := ⟨v1.heap.size, 0, none⟩) hPA (.int .i64 c)).setCell (p := ⟨v1.heap.size, 1, none⟩) hPA (.slice a2 m2 c2))⟩
          exact ((o2.base (by omega)).store (fun g hg => by have := K2 g hg; omega) (fun i x g hx hg => by have := L2 i x g hx hg; omega)).store (fun g hg => by have := K2 g hg; omega) (fun i x g hx hg => by have := L2 i x g hx hg; omega)
      focus
        go_simp
        refine hK.out _ _ ?_ (fun hH => ?_)
        · exact HS.out _ (bd.alloc bd.size _)
        clear hK K
        have bal : Below wd.heap.size wd (wd.alloc (.cells #[.int .i64 0, .slice none 0 0] 52)) := (Below.refl _ _).alloc (Nat.le_refl _) _
        have hPA := bd.size
        have Bx10W := bd.alloc bd.size (.cells #[.int .i64 0, .slice none 0 0] 52)
        have HZ : Hid ((wd.alloc (.cells #[.int .i64 0, .slice none 0 0] 52)).heap.size = wd.heap.size + 1) := by show _ = _; simp
        have bp0 : (wd.alloc (.cells #[.int .i64 0, .slice none 0 0] 52)).cell? ⟨wd.heap.size, 0, none⟩ = some (.int .i64 0) := by simp [go_sem]
        have bq0 : (wd.alloc (.cells #[.int .i64 0, .slice none 0 0] 52)).frozen? ⟨wd.heap.size, 0, none⟩ = false := by simp [go_sem]
        have bp1 : (wd.alloc (.cells #[.int .i64 0, .slice none 0 0] 52)).cell? ⟨wd.heap.size, 1, none⟩ = some (.slice none 0 0) := by simp [go_sem]
        have bq1 : (wd.alloc (.cells #[.int .i64 0, .slice none 0 0] 52)).frozen? ⟨wd.heap.size, 1, none⟩ = false := by simp [go_sem]
        generalize wd.alloc (.cells #[.int .i64 0, .slice none 0 0] 52) = x10W at *
        refine wpAnyH_ready (rs := [1]) (by kernel_rfl) (by simp) ?_
        refine AllReadyH.cons rfl (fun K hK => ?_) AllReadyH.nil
        go_simp
        refine (toLeafS_any a n cap ls x10W (h0.below Bx10W) hs).mono ?_
        rintro e v11 ⟨rfl, o1, bv11⟩
        have Bv11 := Bx10W.trans (bv11.mono Bx10W.size)
        have zv11 := bv11.size
        have lPv11 := lt_of_cell bp0
        have bq0 := ((bcell bv11).2 _ _ lPv11).trans bq0
        have bq1 := ((bcell bv11).2 _ _ lPv11).trans bq1
        have bp0 := keep_cell bv11 bp0
        have bp1 := keep_cell bv11 bp1
        go_wp2_with fail
        refine hK.out _ _ ?_ (fun hH => ?_)
        · exact HS.out _ Bv11
        clear hK K
        refine wpAnyH_ready (rs := [3]) (by kernel_rfl) (by simp) ?_
        refine AllReadyH.cons rfl (fun K hK => ?_) AllReadyH.nil
        go_simp
        refine (toRow_any rk rv rg v11).mono ?_
        rintro e v12 ⟨rfl, bv12⟩
        have Bv12 := Bv11.trans (bv12.mono Bv11.size)
        have zv12 := bv12.size
        have o1 := o1.below bv12
        have lPv12 := lt_of_cell bp0
        have bq0 := ((bcell bv12).2 _ _ lPv12).trans bq0
        have bq1 := ((bcell bv12).2 _ _ lPv12).trans bq1
        have bp0 := keep_cell bv12 bp0
        have bp1 := keep_cell bv12 bp1
        go_wp2_with fail
        refine hK.out _ _ ?_ (fun hH => ?_)
        · exact HS.out _ Bv12
        clear hK K
        refine wpAnyH_ready (rs := [4]) (by kernel_rfl) (by simp) ?_
        refine AllReadyH.cons rfl (fun K hK => ?_) AllReadyH.nil
        go_simp
        refine (SI v12 _ (o1.at hsa)).mono ?_
        rintro e v13 ⟨a2, m2, c2, rfl, o2, bv13⟩
        obtain ⟨vs2, o2⟩ := o2.told
        have K2 := owns_lt o2.2.1
        have L2 := o2.lt
        have Bv13 := Bv12.trans (bv13.mono Bv12.size)
        have zv13 := bv13.size
        have o1 := o1.below bv13
        have lPv13 := lt_of_cell bp0
        have bq0 := ((bcell bv13).2 _ _ lPv13).trans bq0
        have bq1 := ((bcell bv13).2 _ _ lPv13).trans bq1
        have bp0 := keep_cell bv13 bp0
        have bp1 := keep_cell bv13 bp1
        go_wp2_with fail
        refine hK.out _ _ ?_ (fun hH => ?_)
        · exact HS.out _ Bv13
        clear hK K
        have lPz := lt_of_cell bp0
        refine wpAnyH_ready (rs := [6]) (by kernel_rfl) (by simp) ?_
        refine AllReadyH.cons rfl (fun K hK => ?_) AllReadyH.nil
        go_simp
        refine hK.out _ _ ?_ (fun hH => ?_)
        · exact HS.out _ ((Bv13.setCell (p := ⟨wd.heap.size, 0, none⟩) hPA (.int .i64 c)).setCell (p := ⟨wd.heap.size, 1, none⟩) hPA (.slice a2 m2 c2))
        clear hK K
        refine wpAnyH_done (by kernel_rfl) ?_ _
        refine NoPanic.normal ?_
        go_wp2_with fail
        go_meet
        have zal := HZ.out
        refine ⟨wd.heap.size, a2, m2, c2, vs2, v12.heap.size, v13.heap.size, rfl, hPA, by simp [World.setCell] <;> omega, by omega, by simp [World.setCell] <;> omega, by omega, by simp [go_sem, bp0, bp1], by simp [go_sem, bp0, bp1], ?_, K2, L2, ((Bv13.setCell (p := ⟨wd.heap.size, 0, none⟩) hPA (.int .i64 c)).setCell (p := ⟨wd.heap.size, 1, none⟩) hPA (.slice a2 m2 c2))⟩
        exact ((o2.base (by omega)).store (fun g hg => by have := K2 g hg; omega) (fun i x g hx hg => by have := L2 i x g hx hg; omega)).store (fun g hg => by have := K2 g hg; omega) (fun i x g hx hg => by have := L2 i x g hx hg; omega)
    case rest =>
      obtain ⟨w2, hwn⟩ : ∃ x : World, x = wc := ⟨_, rfl⟩
      subst hwn
      obtain ⟨P6, a2, m2, c2, vs2, lo2, hi2, rfl, ⟨hP60, hP61, hlo2, hhi2, hP6, x0, x1, o2, K2, L2, b2'⟩⟩ := hcut
      have r0 := keep_cell b2' r0
      have r1 := keep_cell b2' r1
      have r2 := keep_cell b2' r2
      go_wp2_with fail
      refine (toLeafS_any a n cap ls _ (h0.below b2') hs).mono ?_
      rintro e w3 ⟨rfl, o3, b3⟩
      have b3' := b2'.trans (b3.mono b2'.size)
      have o2 := o2.below b3
      have x0 := keep_cell b3 x0
      have x1 := keep_cell b3 x1
      have r0 := keep_cell b3 r0
      have r1 := keep_cell b3 r1
      have r2 := keep_cell b3 r2
      have z2 := b2'.size
      have z3 := b3.size
      have zr := lt_of_cell r0
      clear b3 b2'
      go_wp2_with fail
      refine (toRow_any rk rv rg _).mono ?_
      rintro e w3b ⟨rfl, b3b⟩
      have o2 := o2.below b3b
      have x0 := keep_cell b3b x0
      have x1 := keep_cell b3b x1
      have r0 := keep_cell b3b r0
      have r1 := keep_cell b3b r1
      have r2 := keep_cell b3b r2
      have z3b := b3b.size
      go_wp2_with fail
      refine (II _ _ ((o3.below b3b).at hsa)).mono ?_
      rintro e w4 ⟨a4, m4, c4, rfl, o4, b4⟩
      obtain ⟨vs4, o4⟩ := o4.told
      have K4 := owns_lt o4.2.1
      have L4 := o4.lt
      have bx := b3b.trans (b4.mono b3b.size)
      have b4' := b3'.trans (bx.mono b3'.size)
      have o2 := o2.below b4
      have x0 := keep_cell b4 x0
      have x1 := keep_cell b4 x1
      have r0 := keep_cell b4 r0
      have r1 := keep_cell b4 r1
      have r2 := keep_cell b4 r2
      have z4 := b4.size
      have lt4 := lt_of_cell x0
      have HM : m4 = m2 := by have e2 := o2.1; have e4 := o4.1; omega
      subst HM
      have hq : ((1 + 3 * (Ch.before rs m4 : Int)) != 1 + 3 * (Ch.before rs m4 : Int)) = false := by simp
      have hq0 : ¬ (1 + 3 * (Ch.before rs m4 : Int)) < 0 := by omega
      clear b4 b3b
      go_wp2_with fail
      refine (eqLeavesResult_same _ a4 a2 m4 c4 c2 rs _ ((o4.below ((Below.refl _ _).alloc (Nat.le_refl _) _)).own.at hra) ((o2.below ((Below.refl _ _).alloc (Nat.le_refl _) _)).own.at hra) hrs).mono ?_
      rintro e w5 ⟨rfl, b5⟩
      have y0 := box_cell b5 0
      have y1 := box_cell b5 1
      simp at y0 y1
      have b5 := below_box b5
      have b5' := b4'.trans (b5.mono b4'.size)
      have bx := bx.trans (b5.mono bx.size)
      have o2 := o2.below b5
      have o4 := o4.below b5
      have x0 := keep_cell b5 x0
      have x1 := keep_cell b5 x1
      have r0 := keep_cell b5 r0
      have r1 := keep_cell b5 r1
      have r2 := keep_cell b5 r2
      go_wp2_with fail
      refine (toLeafS_any a n cap ls _ (h0.below b5') hs).mono ?_
      rintro e w6 ⟨rfl, o6, b6⟩
      have b6' := b5'.trans (b6.mono b5'.size)
      have bx := bx.trans (b6.mono bx.size)
      have o2 := o2.below b6
      have o4 := o4.below b6
      have x0 := keep_cell b6 x0
      have x1 := keep_cell b6 x1
      have y0 := keep_cell b6 y0
      have y1 := keep_cell b6 y1
      have r0 := keep_cell b6 r0
      have r1 := keep_cell b6 r1
      have r2 := keep_cell b6 r2
      go_wp2_with fail
      refine (eqLeafS_same _ _ n n n ls _ ((o3.below bx).at hsa) (o6.at hsa) hs).mono ?_
      rintro e w7 ⟨rfl, b7⟩
      have b7' := b6'.trans (b7.mono b6'.size)
      have bx := bx.trans (b7.mono bx.size)
      have o2 := o2.below b7
      have o4 := o4.below b7
      have x0 := keep_cell b7 x0
      have x1 := keep_cell b7 x1
      have y0 := keep_cell b7 y0
      have y1 := keep_cell b7 y1
      have r0 := keep_cell b7 r0
      have r1 := keep_cell b7 r1
      have r2 := keep_cell b7 r2
      clear o6 b6' b6 b5 b5' b4' b3'
      go_wp2_with fail
      refine (markLeafS_any _ _ n n ls w3 _ o3 bx hs).mono ?_
      rintro e w8 ⟨rfl, _, wi8⟩
      have hk0 : ¬ (1 + 3 * (Ch.before ls n : Int)) < 0 := by omega
      generalize (1 + 3 * (Ch.before ls n : Int)) = kk at *
      have b8' := b7'.trans (wi8.toBelow (B := w0.heap.size) (by omega) b7'.size)
      have o2 := o2.within wi8 (fun g hg => by have := K2 g hg; omega) (fun i x g hx hg => by have := L2 i x g hx hg; omega)
      have o4 := o4.within wi8 (fun g hg => by have := K4 g hg; omega) (fun i x g hx hg => by have := L4 i x g hx hg; omega)
      have x0 := within_cell wi8 x0 (by omega)
      have x1 := within_cell wi8 x1 (by omega)
      have y0 := within_cell wi8 y0 (by omega)
      have y1 := within_cell wi8 y1 (by omega)
      have r0 := within_cell wi8 r0 (by omega)
      have r1 := within_cell wi8 r1 (by omega)
      have r2 := within_cell wi8 r2 (by omega)
      clear b7' b7 o3 wi8 bx
      go_wp2_with fail
      refine (eqLeavesResult_same _ a4 a2 m4 c4 c2 rs _ (o4.own.at hra) (o2.own.at hra) hrs).mono ?_
      rintro e w9 ⟨rfl, b9⟩
      have b9' := b8'.trans (b9.mono b8'.size)
      have o2 := o2.below b9
      have o4 := o4.below b9
      have x0 := keep_cell b9 x0
      have x1 := keep_cell b9 x1
      have y0 := keep_cell b9 y0
      have y1 := keep_cell b9 y1
      have r0 := keep_cell b9 r0
      have r1 := keep_cell b9 r1
      have r2 := keep_cell b9 r2
      clear b8' b9
      go_wp2_with fail
      refine (markLeavesResult_V _ _ w3b.heap.size w4.heap.size a4 m4 c4 vs4 rs _ o4 L4 hrs).mono ?_
      rintro e w10 ⟨rfl, o5, wi10⟩
      generalize hkk : (1 + 3 * (Ch.before rs m4 : Int)) = mk at *
      have b10' := b9'.trans (wi10.toBelow (B := w0.heap.size) (by omega) b9'.size)
      have o2 := o2.within wi10 (fun g hg => by have := K2 g hg; omega) (fun i x g hx hg => by have := L2 i x g hx hg; omega)
      have x0 := within_cell wi10 x0 (by omega)
      have x1 := within_cell wi10 x1 (by omega)
      have y0 := within_cell wi10 y0 (by omega)
      have y1 := within_cell wi10 y1 (by omega)
      have r0 := within_cell wi10 r0 (by omega)
      have r1 := within_cell wi10 r1 (by omega)
      have r2 := within_cell wi10 r2 (by omega)
      have hmm := small_marks hra
      clear b9' wi10 o4
      go_wp2_with fail
      refine (heldLeavesResult_any _ a4 m4 c4 rs _ (o5.own.at hmm) hrs).mono ?_
      rw [hkk]
      rintro e w11 ⟨rfl, b11⟩
      have b12' := b10'.trans (b11.mono b10'.size)
      have o2 := o2.below b11
      have o5 := o5.below b11
      have x0 := keep_cell b11 x0
      have x1 := keep_cell b11 x1
      have y0 := keep_cell b11 y0
      have y1 := keep_cell b11 y1
      have r0 := keep_cell b11 r0
      have r1 := keep_cell b11 r1
      have r2 := keep_cell b11 r2
      clear b10' b11
      go_upto_region 24 with fail
      obtain ⟨w12, hw12⟩ : ∃ x : World, x = w11 := ⟨_, rfl⟩
      subst hw12
      have h12 := h0.below b12'
      go_cut [12] (fun s wx => ∃ P a2 m2 c2 vs2 lo hi, s = .pointer (some ⟨P, 0, none⟩) ∧ PutAt wx w12 P c a2 m2 c2 vs2 rs lo hi)
      case first =>
        refine wp_region_noPanic ?_
        refine wp_region_held_drew (S := fun W' => W'.cell? ⟨w.heap.size, 0, none⟩ = some (.int .i64 rk) ∧ W'.cell? ⟨w.heap.size, 1, none⟩ = some (.int .i64 rv) ∧ W'.cell? ⟨w.heap.size, 2, none⟩ = some (.bool rg)) (by kernel_rfl) (⟨r0, r1, r2⟩) (fun hH => ?_)
        refine hTake (i := 0) (v := ?_) rfl (by kernel_rfl) (by kernel_rfl) (by kernel_rfl) (by rfl) ?_ hH ?_
        rotate_left
        · intro W hW; (try dsimp only at hW); go_simp <;> with_reducible rfl
        simp only [Act.put, List.setIfInBounds_toArray, List.set_cons_zero, List.set_cons_succ]
        refine hTake (i := 2) (v := ?_) rfl (by kernel_rfl) (by kernel_rfl) (by kernel_rfl) (by rfl) ?_ hH ?_
        rotate_left
        · intro W hW; (try dsimp only at hW); go_simp <;> with_reducible rfl
        simp only [Act.put, List.setIfInBounds_toArray, List.set_cons_zero, List.set_cons_succ]
        have HS : Hid (∀ W', Below w12.heap.size w12 W' → W'.cell? ⟨w.heap.size, 0, none⟩ = some (.int .i64 rk) ∧ W'.cell? ⟨w.heap.size, 1, none⟩ = some (.int .i64 rv) ∧ W'.cell? ⟨w.heap.size, 2, none⟩ = some (.bool rg)) := fun W' hW => ⟨keep_cell hW r0, keep_cell hW r1, keep_cell hW r2⟩
        have bd : Below w12.heap.size w12 w12.drew := (Below.refl _ _).drew
        have zd := bd.size
        generalize w12.drew = wd at *
        refine wpAnyH_ready (rs := [1, 5]) (by kernel_rfl) (by simp) ?_
        refine AllReadyH.cons rfl (fun K hK => ?_) (AllReadyH.cons rfl (fun K hK => ?_) AllReadyH.nil)
        focus
          go_simp
          refine (toLeafS_any a n cap ls wd (h12.below bd) hs).mono ?_
          rintro e v1 ⟨rfl, o1, bv1⟩
          have Bv1 := bd.trans (bv1.mono bd.size)
          have zv1 := bv1.size
          go_wp2_with fail
          refine hK.out _ _ ?_ (fun hH => ?_)
          · exact HS.out _ Bv1
          clear hK K
          refine wpAnyH_ready (rs := [3, 5]) (by kernel_rfl) (by simp) ?_
          refine AllReadyH.cons rfl (fun K hK => ?_) (AllReadyH.cons rfl (fun K hK => ?_) AllReadyH.nil)
          focus
            go_simp
            refine (toRow_any rk rv rg v1).mono ?_
            rintro e v2 ⟨rfl, bv2⟩
            have Bv2 := Bv1.trans (bv2.mono Bv1.size)
            have zv2 := bv2.size
            have o1 := o1.below bv2
            go_wp2_with fail
            refine hK.out _ _ ?_ (fun hH => ?_)
            · exact HS.out _ Bv2
            clear hK K
            refine wpAnyH_ready (rs := [4, 5]) (by kernel_rfl) (by simp) ?_
            refine AllReadyH.cons rfl (fun K hK => ?_) (AllReadyH.cons rfl (fun K hK => ?_) AllReadyH.nil)
            focus
              go_simp
              refine (II v2 _ (o1.at hsa)).mono ?_
              rintro e v3 ⟨a2, m2, c2, rfl, o2, bv3⟩
              obtain ⟨vs2, o2⟩ := o2.told
              have K2 := owns_lt o2.2.1
              have L2 := o2.lt
              have Bv3 := Bv2.trans (bv3.mono Bv2.size)
              have zv3 := bv3.size
              have o1 := o1.below bv3
              go_wp2_with fail
              refine hK.out _ _ ?_ (fun hH => ?_)
              · exact HS.out _ Bv3
              clear hK K
              refine wpAnyH_ready (rs := [5]) (by kernel_rfl) (by simp) ?_
              refine AllReadyH.cons rfl (fun K hK => ?_) AllReadyH.nil
              go_simp
              refine hK.out _ _ ?_ (fun hH => ?_)
              · exact HS.out _ (Bv3.alloc Bv3.size _)
              clear hK K
              have bal : Below v3.heap.size v3 (v3.alloc (.cells #[.int .i64 0, .slice none 0 0] 52)) := (Below.refl _ _).alloc (Nat.le_refl _) _
              have hPA := Bv3.size
              have Bx4W := Bv3.alloc Bv3.size (.cells #[.int .i64 0, .slice none 0 0] 52)
              have HZ : Hid ((v3.alloc (.cells #[.int .i64 0, .slice none 0 0] 52)).heap.size = v3.heap.size + 1) := by show _ = _; simp
              have bp0 : (v3.alloc (.cells #[.int .i64 0, .slice none 0 0] 52)).cell? ⟨v3.heap.size, 0, none⟩ = some (.int .i64 0) := by simp [go_sem]
              have bq0 : (v3.alloc (.cells #[.int .i64 0, .slice none 0 0] 52)).frozen? ⟨v3.heap.size, 0, none⟩ = false := by simp [go_sem]
              have bp1 : (v3.alloc (.cells #[.int .i64 0, .slice none 0 0] 52)).cell? ⟨v3.heap.size, 1, none⟩ = some (.slice none 0 0) := by simp [go_sem]
              have bq1 : (v3.alloc (.cells #[.int .i64 0, .slice none 0 0] 52)).frozen? ⟨v3.heap.size, 1, none⟩ = false := by simp [go_sem]
              have o2 := o2.below bal
              generalize v3.alloc (.cells #[.int .i64 0, .slice none 0 0] 52) = x4W at *
              have lPz := lt_of_cell bp0
              refine wpAnyH_ready (rs := [6]) (by kernel_rfl) (by simp) ?_
              refine AllReadyH.cons rfl (fun K hK => ?_) AllReadyH.nil
              go_simp
              refine hK.out _ _ ?_ (fun hH => ?_)
              · exact HS.out _ ((Bx4W.setCell (p := ⟨v3.heap.size, 0, none⟩) hPA (.int .i64 c)).setCell (p := ⟨v3.heap.size, 1, none⟩) hPA (.slice a2 m2 c2))
              clear hK K
              refine wpAnyH_done (by kernel_rfl) ?_ _
              refine NoPanic.normal ?_
              go_wp2_with fail
              go_meet
              have zal := HZ.out
              refine ⟨v3.heap.size, a2, m2, c2, vs2, v2.heap.size, v3.heap.size, rfl, hPA, by simp [World.setCell] <;> omega, by omega, by simp [World.setCell] <;> omega, by omega, by simp [go_sem, bp0, bp1], by simp [go_sem, bp0, bp1], ?_, K2, L2, ((Bx4W.setCell (p := ⟨v3.heap.size, 0, none⟩) hPA (.int .i64 c)).setCell (p := ⟨v3.heap.size, 1, none⟩) hPA (.slice a2 m2 c2))⟩
              exact ((o2.base (by omega)).store (fun g hg => by have := K2 g hg; omega) (fun i x g hx hg => by have := L2 i x g hx hg; omega)).store (fun g hg => by have := K2 g hg; omega) (fun i x g hx hg => by have := L2 i x g hx hg; omega)
            focus
              go_simp
              refine hK.out _ _ ?_ (fun hH => ?_)
              · exact HS.out _ (Bv2.alloc Bv2.size _)
              clear hK K
              have bal : Below v2.heap.size v2 (v2.alloc (.cells #[.int .i64 0, .slice none 0 0] 52)) := (Below.refl _ _).alloc (Nat.le_refl _) _
              have hPA := Bv2.size
              have Bx5W := Bv2.alloc Bv2.size (.cells #[.int .i64 0, .slice none 0 0] 52)
              have HZ : Hid ((v2.alloc (.cells #[.int .i64 0, .slice none 0 0] 52)).heap.size = v2.heap.size + 1) := by show _ = _; simp
              have bp0 : (v2.alloc (.cells #[.int .i64 0, .slice none 0 0] 52)).cell? ⟨v2.heap.size, 0, none⟩ = some (.int .i64 0) := by simp [go_sem]
              have bq0 : (v2.alloc (.cells #[.int .i64 0, .slice none 0 0] 52)).frozen? ⟨v2.heap.size, 0, none⟩ = false := by simp [go_sem]
              have bp1 : (v2.alloc (.cells #[.int .i64 0, .slice none 0 0] 52)).cell? ⟨v2.heap.size, 1, none⟩ = some (.slice none 0 0) := by simp [go_sem]
              have bq1 : (v2.alloc (.cells #[.int .i64 0, .slice none 0 0] 52)).frozen? ⟨v2.heap.size, 1, none⟩ = false := by simp [go_sem]
              have o1 := o1.below bal
              generalize v2.alloc (.cells #[.int .i64 0, .slice none 0 0] 52) = x5W at *
              refine wpAnyH_ready (rs := [4]) (by kernel_rfl) (by simp) ?_
              refine AllReadyH.cons rfl (fun K hK => ?_) AllReadyH.nil
              go_simp
              refine (II x5W _ (o1.at hsa)).mono ?_
              rintro e v6 ⟨a2, m2, c2, rfl, o2, bv6⟩
              obtain ⟨vs2, o2⟩ := o2.told
              have K2 := owns_lt o2.2.1
              have L2 := o2.lt
              have Bv6 := Bx5W.trans (bv6.mono Bx5W.size)
              have zv6 := bv6.size
              have o1 := o1.below bv6
              have lPv6 := lt_of_cell bp0
              have bq0 := ((bcell bv6).2 _ _ lPv6).trans bq0
              have bq1 := ((bcell bv6).2 _ _ lPv6).trans bq1
              have bp0 := keep_cell bv6 bp0
              have bp1 := keep_cell bv6 bp1
              go_wp2_with fail
              refine hK.out _ _ ?_ (fun hH => ?_)
              · exact HS.out _ Bv6
              clear hK K
              have lPz := lt_of_cell bp0
              refine wpAnyH_ready (rs := [6]) (by kernel_rfl) (by simp) ?_
              refine AllReadyH.cons rfl (fun K hK => ?_) AllReadyH.nil
              go_simp
              refine hK.out _ _ ?_ (fun hH => ?_)
              · exact HS.out _ ((Bv6.setCell (p := ⟨v2.heap.size, 0, none⟩) hPA (.int .i64 c)).setCell (p := ⟨v2.heap.size, 1, none⟩) hPA (.slice a2 m2 c2))
              clear hK K
              refine wpAnyH_done (by kernel_rfl) ?_ _
              refine NoPanic.normal ?_
              go_wp2_with fail
              go_meet
              have zal := HZ.out
              refine ⟨v2.heap.size, a2, m2, c2, vs2, x5W.heap.size, v6.heap.size, rfl, hPA, by simp [World.setCell] <;> omega, by omega, by simp [World.setCell] <;> omega, by omega, by simp [go_sem, bp0, bp1], by simp [go_sem, bp0, bp1], ?_, K2, L2, ((Bv6.setCell (p := ⟨v2.heap.size, 0, none⟩) hPA (.int .i64 c)).setCell (p := ⟨v2.heap.size, 1, none⟩) hPA (.slice a2 m2 c2))⟩
              exact ((o2.base (by omega)).store (fun g hg => by have := K2 g hg; omega) (fun i x g hx hg => by have := L2 i x g hx hg; omega)).store (fun g hg => by have := K2 g hg; omega) (fun i x g hx hg => by have := L2 i x g hx hg; omega)
          focus
            go_simp
            refine hK.out _ _ ?_ (fun hH => ?_)
            · exact HS.out _ (Bv1.alloc Bv1.size _)
            clear hK K
            have bal : Below v1.heap.size v1 (v1.alloc (.cells #[.int .i64 0, .slice none 0 0] 52)) := (Below.refl _ _).alloc (Nat.le_refl _) _
            have hPA := Bv1.size
            have Bx7W := Bv1.alloc Bv1.size (.cells #[.int .i64 0, .slice none 0 0] 52)
            have HZ : Hid ((v1.alloc (.cells #[.int .i64 0, .slice none 0 0] 52)).heap.size = v1.heap.size + 1) := by show _ = _; simp
            have bp0 : (v1.alloc (.cells #[.int .i64 0, .slice none 0 0] 52)).cell? ⟨v1.heap.size, 0, none⟩ = some (.int .i64 0) := by simp [go_sem]
            have bq0 : (v1.alloc (.cells #[.int .i64 0, .slice none 0 0] 52)).frozen? ⟨v1.heap.size, 0, none⟩ = false := by simp [go_sem]
            have bp1 : (v1.alloc (.cells #[.int .i64 0, .slice none 0 0] 52)).cell? ⟨v1.heap.size, 1, none⟩ = some (.slice none 0 0) := by simp [go_sem]
            have bq1 : (v1.alloc (.cells #[.int .i64 0, .slice none 0 0] 52)).frozen? ⟨v1.heap.size, 1, none⟩ = false := by simp [go_sem]
            have o1 := o1.below bal
            generalize v1.alloc (.cells #[.int .i64 0, .slice none 0 0] 52) = x7W at *
            refine wpAnyH_ready (rs := [3]) (by kernel_rfl) (by simp) ?_
            refine AllReadyH.cons rfl (fun K hK => ?_) AllReadyH.nil
            go_simp
            refine (toRow_any rk rv rg x7W).mono ?_
            rintro e v8 ⟨rfl, bv8⟩
            have Bv8 := Bx7W.trans (bv8.mono Bx7W.size)
            have zv8 := bv8.size
            have o1 := o1.below bv8
            have lPv8 := lt_of_cell bp0
            have bq0 := ((bcell bv8).2 _ _ lPv8).trans bq0
            have bq1 := ((bcell bv8).2 _ _ lPv8).trans bq1
            have bp0 := keep_cell bv8 bp0
            have bp1 := keep_cell bv8 bp1
            go_wp2_with fail
            refine hK.out _ _ ?_ (fun hH => ?_)
            · exact HS.out _ Bv8
            clear hK K
            refine wpAnyH_ready (rs := [4]) (by kernel_rfl) (by simp) ?_
            refine AllReadyH.cons rfl (fun K hK => ?_) AllReadyH.nil
            go_simp
            refine (II v8 _ (o1.at hsa)).mono ?_
            rintro e v9 ⟨a2, m2, c2, rfl, o2, bv9⟩
            obtain ⟨vs2, o2⟩ := o2.told
            have K2 := owns_lt o2.2.1
            have L2 := o2.lt
            have Bv9 := Bv8.trans (bv9.mono Bv8.size)
            have zv9 := bv9.size
            have o1 := o1.below bv9
            have lPv9 := lt_of_cell bp0
            have bq0 := ((bcell bv9).2 _ _ lPv9).trans bq0
            have bq1 := ((bcell bv9).2 _ _ lPv9).trans bq1
            have bp0 := keep_cell bv9 bp0
            have bp1 := keep_cell bv9 bp1
            go_wp2_with fail
            refine hK.out _ _ ?_ (fun hH => ?_)
            · exact HS.out _ Bv9
            clear hK K
            have lPz := lt_of_cell bp0
            refine wpAnyH_ready (rs := [6]) (by kernel_rfl) (by simp) ?_
            refine AllReadyH.cons rfl (fun K hK => ?_) AllReadyH.nil
            go_simp
            refine hK.out _ _ ?_ (fun hH => ?_)
            · exact HS.out _ ((Bv9.setCell (p := ⟨v1.heap.size, 0, none⟩) hPA (.int .i64 c)).setCell (p := ⟨v1.heap.size, 1, none⟩) hPA (.slice a2 m2 c2))
            clear hK K
            refine wpAnyH_done (by kernel_rfl) ?_ _
            refine NoPanic.normal ?_
            go_wp2_with fail
            go_meet
            have zal := HZ.out
            refine ⟨v1.heap.size, a2, m2, c2, vs2, v8.heap.size, v9.heap.size, rfl, hPA, by simp [World.setCell] <;> omega, by omega, by simp [World.setCell] <;> omega, by omega, by simp [go_sem, bp0, bp1], by simp [go_sem, bp0, bp1], ?_, K2, L2, ((Bv9.setCell (p := ⟨v1.heap.size, 0, none⟩) hPA (.int .i64 c)).setCell (p := ⟨v1.heap.size, 1, none⟩) hPA (.slice a2 m2 c2))⟩
            exact ((o2.base (by omega)).store (fun g hg => by have := K2 g hg; omega) (fun i x g hx hg => by have := L2 i x g hx hg; omega)).store (fun g hg => by have := K2 g hg; omega) (fun i x g hx hg => by have := L2 i x g hx hg; omega)
        focus
          go_simp
          refine hK.out _ _ ?_ (fun hH => ?_)
          · exact HS.out _ (bd.alloc bd.size _)
          clear hK K
          have bal : Below wd.heap.size wd (wd.alloc (.cells #[.int .i64 0, .slice none 0 0] 52)) := (Below.refl _ _).alloc (Nat.le_refl _) _
          have hPA := bd.size
          have Bx10W := bd.alloc bd.size (.cells #[.int .i64 0, .slice none 0 0] 52)
          have HZ : Hid ((wd.alloc (.cells #[.int .i64 0, .slice none 0 0] 52)).heap.size = wd.heap.size + 1) := by show _ = _; simp
          have bp0 : (wd.alloc (.cells #[.int .i64 0, .slice none 0 0] 52)).cell? ⟨wd.heap.size, 0, none⟩ = some (.int .i64 0) := by simp [go_sem]
          have bq0 : (wd.alloc (.cells #[.int .i64 0, .slice none 0 0] 52)).frozen? ⟨wd.heap.size, 0, none⟩ = false := by simp [go_sem]
          have bp1 : (wd.alloc (.cells #[.int .i64 0, .slice none 0 0] 52)).cell? ⟨wd.heap.size, 1, none⟩ = some (.slice none 0 0) := by simp [go_sem]
          have bq1 : (wd.alloc (.cells #[.int .i64 0, .slice none 0 0] 52)).frozen? ⟨wd.heap.size, 1, none⟩ = false := by simp [go_sem]
          generalize wd.alloc (.cells #[.int .i64 0, .slice none 0 0] 52) = x10W at *
          refine wpAnyH_ready (rs := [1]) (by kernel_rfl) (by simp) ?_
          refine AllReadyH.cons rfl (fun K hK => ?_) AllReadyH.nil
          go_simp
          refine (toLeafS_any a n cap ls x10W (h12.below Bx10W) hs).mono ?_
          rintro e v11 ⟨rfl, o1, bv11⟩
          have Bv11 := Bx10W.trans (bv11.mono Bx10W.size)
          have zv11 := bv11.size
          have lPv11 := lt_of_cell bp0
          have bq0 := ((bcell bv11).2 _ _ lPv11).trans bq0
          have bq1 := ((bcell bv11).2 _ _ lPv11).trans bq1
          have bp0 := keep_cell bv11 bp0
          have bp1 := keep_cell bv11 bp1
          go_wp2_with fail
          refine hK.out _ _ ?_ (fun hH => ?_)
          · exact HS.out _ Bv11
          clear hK K
          refine wpAnyH_ready (rs := [3]) (by kernel_rfl) (by simp) ?_
          refine AllReadyH.cons rfl (fun K hK => ?_) AllReadyH.nil
          go_simp
          refine (toRow_any rk rv rg v11).mono ?_
          rintro e v12 ⟨rfl, bv12⟩
          have Bv12 := Bv11.trans (bv12.mono Bv11.size)
          have zv12 := bv12.size
          have o1 := o1.below bv12
          have lPv12 := lt_of_cell bp0
          have bq0 := ((bcell bv12).2 _ _ lPv12).trans bq0
          have bq1 := ((bcell bv12).2 _ _ lPv12).trans bq1
          have bp0 := keep_cell bv12 bp0
          have bp1 := keep_cell bv12 bp1
          go_wp2_with fail
          refine hK.out _ _ ?_ (fun hH => ?_)
          · exact HS.out _ Bv12
          clear hK K
          refine wpAnyH_ready (rs := [4]) (by kernel_rfl) (by simp) ?_
          refine AllReadyH.cons rfl (fun K hK => ?_) AllReadyH.nil
          go_simp
          refine (II v12 _ (o1.at hsa)).mono ?_
          rintro e v13 ⟨a2, m2, c2, rfl, o2, bv13⟩
          obtain ⟨vs2, o2⟩ := o2.told
          have K2 := owns_lt o2.2.1
          have L2 := o2.lt
          have Bv13 := Bv12.trans (bv13.mono Bv12.size)
          have zv13 := bv13.size
          have o1 := o1.below bv13
          have lPv13 := lt_of_cell bp0
          have bq0 := ((bcell bv13).2 _ _ lPv13).trans bq0
          have bq1 := ((bcell bv13).2 _ _ lPv13).trans bq1
          have bp0 := keep_cell bv13 bp0
          have bp1 := keep_cell bv13 bp1
          go_wp2_with fail
          refine hK.out _ _ ?_ (fun hH => ?_)
          · exact HS.out _ Bv13
          clear hK K
          have lPz := lt_of_cell bp0
          refine wpAnyH_ready (rs := [6]) (by kernel_rfl) (by simp) ?_
          refine AllReadyH.cons rfl (fun K hK => ?_) AllReadyH.nil
          go_simp
          refine hK.out _ _ ?_ (fun hH => ?_)
          · exact HS.out _ ((Bv13.setCell (p := ⟨wd.heap.size, 0, none⟩) hPA (.int .i64 c)).setCell (p := ⟨wd.heap.size, 1, none⟩) hPA (.slice a2 m2 c2))
          clear hK K
          refine wpAnyH_done (by kernel_rfl) ?_ _
          refine NoPanic.normal ?_
          go_wp2_with fail
          go_meet
          have zal := HZ.out
          refine ⟨wd.heap.size, a2, m2, c2, vs2, v12.heap.size, v13.heap.size, rfl, hPA, by simp [World.setCell] <;> omega, by omega, by simp [World.setCell] <;> omega, by omega, by simp [go_sem, bp0, bp1], by simp [go_sem, bp0, bp1], ?_, K2, L2, ((Bv13.setCell (p := ⟨wd.heap.size, 0, none⟩) hPA (.int .i64 c)).setCell (p := ⟨wd.heap.size, 1, none⟩) hPA (.slice a2 m2 c2))⟩
          exact ((o2.base (by omega)).store (fun g hg => by have := K2 g hg; omega) (fun i x g hx hg => by have := L2 i x g hx hg; omega)).store (fun g hg => by have := K2 g hg; omega) (fun i x g hx hg => by have := L2 i x g hx hg; omega)
      case rest =>
        obtain ⟨w13, hwn⟩ : ∃ x : World, x = wc := ⟨_, rfl⟩
        subst hwn
        obtain ⟨P12, a13, m13, c13, vs13, lo13, hi13, rfl, ⟨hp0, hp1, hl0', hh0, hP13, u0', u1', o13, K13, L13, b13⟩⟩ := hcut
        have b13' := b12'.trans (b13.mono b12'.size)
        have o2 := o2.below b13
        have o5 := o5.below b13
        have x0 := keep_cell b13 x0
        have x1 := keep_cell b13 x1
        have y0 := keep_cell b13 y0
        have y1 := keep_cell b13 y1
        have HM : m13 = m4 := by have e2 := o2.1; have e4 := o13.1; omega
        subst HM
        have l1 := lt_of_cell x0
        have l2 := lt_of_cell y0
        go_wp2_with fail
        refine (eqLeavesResult_same _ a13 a2 m13 c13 c2 rs _ (o13.own.at hra) (o2.own.at hra) hrs).mono ?_
        rintro e w14 ⟨rfl, b14⟩
        have b14' := b13'.trans (b14.mono b13'.size)
        have o5 := o5.below b14
        have y0 := keep_cell b14 y0
        have y1 := keep_cell b14 y1
        clear b13 b13' b14
        go_wp2_with fail
        refine (heldLeavesResult_any _ a4 m13 c4 rs _ (o5.own.at hmm) hrs).mono ?_
        rw [hkk]
        rintro e w15 ⟨rfl, b15⟩
        go_wp2
        go_ret
        exact ⟨rfl, bw0.trans ((b14'.trans (b15.mono b14'.size)).mono bw0.size)⟩
end Go.Proofs.Ytapahapjajijeaa
