
/- Walks of the first record of bytes: the model's. -/
import Derived.Test.YtommekhmdmnjlaaFirstW
import Derived.Lib.SmallJoins
namespace Go.Proofs.Ytommekhmdmnjlaa
open Go.RowKit

theorem row7 {W : World} {g : Nat} {t : TypeId} {u0 u1 u2 u3 u4 u5 u6 : Value} (h : W.heap[g]? = some (.cells #[u0, u1, u2, u3, u4, u5, u6] t (0, 0))) :
    W.cell? ⟨g, 0, none⟩ = some u0 ∧ W.cell? ⟨g, 1, none⟩ = some u1 ∧ W.cell? ⟨g, 2, none⟩ = some u2 ∧ W.cell? ⟨g, 3, none⟩ = some u3 ∧ W.cell? ⟨g, 4, none⟩ = some u4 ∧ W.cell? ⟨g, 5, none⟩ = some u5 ∧ W.cell? ⟨g, 6, none⟩ = some u6 :=
  ⟨cell_of_row _ _ _ _ _ _ h, cell_of_row _ _ _ _ _ _ h, cell_of_row _ _ _ _ _ _ h, cell_of_row _ _ _ _ _ _ h, cell_of_row _ _ _ _ _ _ h, cell_of_row _ _ _ _ _ _ h, cell_of_row _ _ _ _ _ _ h⟩
theorem frz7 {W : World} {g : Nat} {t : TypeId} {cs : Array Value} (h : W.heap[g]? = some (.cells cs t (0, 0))) :
    W.frozen? ⟨g, 0, none⟩ = false ∧ W.frozen? ⟨g, 1, none⟩ = false ∧ W.frozen? ⟨g, 2, none⟩ = false ∧ W.frozen? ⟨g, 3, none⟩ = false ∧ W.frozen? ⟨g, 4, none⟩ = false ∧ W.frozen? ⟨g, 5, none⟩ = false ∧ W.frozen? ⟨g, 6, none⟩ = false :=
  ⟨Joins.unfrozen_of_block h _, Joins.unfrozen_of_block h _, Joins.unfrozen_of_block h _, Joins.unfrozen_of_block h _, Joins.unfrozen_of_block h _, Joins.unfrozen_of_block h _, Joins.unfrozen_of_block h _⟩
theorem set7_row {W : World} {g : Nat} {t : TypeId} {u0 u1 u2 u3 u4 u5 u6 : Value} (h : W.heap[g]? = some (.cells #[u0, u1, u2, u3, u4, u5, u6] t (0, 0))) (v0 v1 v2 v3 v4 v5 v6 : Value) :
    (((((((W.setCell ⟨g, 0, none⟩ v0).setCell ⟨g, 1, none⟩ v1).setCell ⟨g, 2, none⟩ v2).setCell ⟨g, 3, none⟩ v3).setCell ⟨g, 4, none⟩ v4).setCell ⟨g, 5, none⟩ v5).setCell ⟨g, 6, none⟩ v6).heap[g]? = some (.cells #[v0, v1, v2, v3, v4, v5, v6] t (0, 0)) := by
  have h0 := Joins.block_setCell (i := 0) h v0
  simp only [List.setIfInBounds_toArray, List.set_cons_zero] at h0
  have h1 := Joins.block_setCell (i := 1) h0 v1
  simp only [List.setIfInBounds_toArray, List.set_cons_zero, List.set_cons_succ] at h1
  have h2 := Joins.block_setCell (i := 2) h1 v2
  simp only [List.setIfInBounds_toArray, List.set_cons_zero, List.set_cons_succ] at h2
  have h3 := Joins.block_setCell (i := 3) h2 v3
  simp only [List.setIfInBounds_toArray, List.set_cons_zero, List.set_cons_succ] at h3
  have h4 := Joins.block_setCell (i := 4) h3 v4
  simp only [List.setIfInBounds_toArray, List.set_cons_zero, List.set_cons_succ] at h4
  have h5 := Joins.block_setCell (i := 5) h4 v5
  simp only [List.setIfInBounds_toArray, List.set_cons_zero, List.set_cons_succ] at h5
  have h6 := Joins.block_setCell (i := 6) h5 v6
  simp only [List.setIfInBounds_toArray, List.set_cons_zero, List.set_cons_succ] at h6
  exact h6
theorem below_set7 {B : Nat} {A W : World} {g : Nat} (h : Below B A W) (hg : B ≤ g) (v0 v1 v2 v3 v4 v5 v6 : Value) :
    Below B A (((((((W.setCell ⟨g, 0, none⟩ v0).setCell ⟨g, 1, none⟩ v1).setCell ⟨g, 2, none⟩ v2).setCell ⟨g, 3, none⟩ v3).setCell ⟨g, 4, none⟩ v4).setCell ⟨g, 5, none⟩ v5).setCell ⟨g, 6, none⟩ v6) :=
  ((((((h.setCell (p := ⟨g, 0, none⟩) hg v0).setCell (p := ⟨g, 1, none⟩) hg v1).setCell (p := ⟨g, 2, none⟩) hg v2).setCell (p := ⟨g, 3, none⟩) hg v3).setCell (p := ⟨g, 4, none⟩) hg v4).setCell (p := ⟨g, 5, none⟩) hg v5).setCell (p := ⟨g, 6, none⟩) hg v6

theorem take_abs (a : Option Addr) (n cap k : Nat) (zs : List Int) (w : World) (h : CellsAt w a n (bts zs)) (hb : IsB zs) (hn : n ≤ 1099511627776) (hk : k + 1 < n) :
    Calls Try.prog 71 #[.slice a n cap, .int .i64 k] w fun e w' => e = .returned (.int .i64 (zs.getD k 0 * 256 + zs.getD (k + 1) 0)) ∧ w'.heap = w.heap ∧ Below w.heap.size w w' := by
  refine (take_any a n cap k zs w h hb hn hk).mono ?_
  rintro e w' ⟨he, q, rfl⟩
  exact ⟨he, by simp, below_drewN (Below.refl _ _) q⟩

set_option maxHeartbeats 400000 in
theorem l2One_short (a : Option Addr) (n cap : Nat) (zs : List Int) (w : World) (h : CellsAt w a n (bts zs)) (h5 : n < 5) :
    Calls Try.prog 58 #[.slice a n cap] w fun e w' => e = .returned (.tuple #[recV (Ch.firstV zs).1, .int .i64 (Ch.firstV zs).2]) ∧ Below w.heap.size w w' := by
  have HL := h.len
  have HV : Hid (Ch.firstV zs = (Ch.Rec.zero, 0)) := Ch.firstV_none (fun hh => by
    have e1 := hh.2.length_le
    have e2 := Ch.Rec.bytes_len (Ch.unp zs)
    have e3 := (Ch.Rec.len_bd (Ch.unp zs)).1
    have e4 := HL.out
    omega)
  have i5 : (n : Int) < 5 := by omega
  go_enter Try.func58, Try.ntmps58
  go_wp2_with fail
  rw [HV.out]
  refine bodyPost_ret (v := .tuple #[.agg #[.int .i64 0, .int .i64 0, .int .i64 0, .bool false, .int .i64 0, .bool false, .int .i64 0], .int .i64 0]) (by simp [results, Try.results58, go_sem]) rfl ⟨rfl, ?_⟩
  exact (Below.refl _ _).alloc (Nat.le_refl _) _

set_option linter.unusedSimpArgs false in
set_option maxRecDepth 10000 in
set_option maxHeartbeats 8000000 in
theorem l2One_plain (b off n cap : Nat) (zs : List Int) (w : World) (h : CellsAt w (some ⟨b, off, none⟩) n (bts zs)) (hb : IsB zs) (hn : n ≤ 1048576) (hcap : n ≤ cap) (h5 : 5 ≤ n) (hset : Ch.sets (zs.getD 0 0) = false) :
    Calls Try.prog 58 #[.slice (some ⟨b, off, none⟩) n cap] w fun e w' => e = .returned (.tuple #[recV (Ch.firstV zs).1, .int .i64 (Ch.firstV zs).2]) ∧ Below w.heap.size w w' := by
  have HL := h.len
  have h5' : ¬ (n : Int) < 5 := by omega
  have i0 : (0 : Int) < (n : Int) := by omega
  have i0n : 0 < n := by omega
  obtain ⟨b', off', hbo, hc0⟩ := h.at (show 0 < n by omega)
  simp only [Option.some.injEq, Addr.mk.injEq, and_true] at hbo
  obtain ⟨rfl, rfl⟩ := hbo
  rw [Nat.add_zero] at hc0
  obtain ⟨p0, q0⟩ := hb 0
  obtain ⟨p1, q1⟩ := hb 1
  obtain ⟨p2, q2⟩ := hb 2
  have tk1 := fun (W : World) (hW : Below (w.heap.size + 1) (w.alloc (.cells #[.int .i64 0, .int .i64 0, .int .i64 0, .bool false, .int .i64 0, .bool false, .int .i64 0] 38)) W) => take_abs (some ⟨b, off, none⟩) n cap 1 zs W (h.below (below_boxS hW)) hb (by omega) (by omega)
  simp only [Nat.reduceAdd, Int.reduceNeg, Int.cast_ofNat_Int] at tk1
  have HU : Hid (Ch.unp zs = ⟨zs.getD 0 0, zs.getD 1 0 * 256 + zs.getD 2 0, 0, false, 0, false, 0⟩) := by show _ = _; unfold Ch.unp; rw [hset]; rfl
  generalize zs.getD 0 0 = d0 at *
  generalize zs.getD 1 0 = d1 at *
  generalize zs.getD 2 0 = d2 at *
  have hw0 : IntKind.i64.wrap d0 = d0 := IntWalk.i64_in d0 ⟨by omega, by omega⟩
  go_enter Try.func58, Try.ntmps58
  go_upto_region 3 with fail
  go_cut [4] (fun s wx => s = .pointer (some ⟨w.heap.size + 1, 0, none⟩) ∧ wx.heap[w.heap.size + 1]? = some (.cells #[.int .i64 d0, .int .i64 (d1 * 256 + d2), .int .i64 0, .bool false, .int .i64 0, .bool false, .int .i64 0] 38 (0, 0)) ∧ Below (w.heap.size + 1) (w.alloc (.cells #[.int .i64 0, .int .i64 0, .int .i64 0, .bool false, .int .i64 0, .bool false, .int .i64 0] 38)) wx ∧ wx.heap.size = w.heap.size + 2)
  case first =>
    have HS : Hid (∀ W', Below (w.heap.size + 1) (w.alloc (.cells #[.int .i64 0, .int .i64 0, .int .i64 0, .bool false, .int .i64 0, .bool false, .int .i64 0] 38)) W' → W'.cell? ⟨b, off, none⟩ = some (.int .u8 d0) ∧ Below (w.heap.size + 1) (w.alloc (.cells #[.int .i64 0, .int .i64 0, .int .i64 0, .bool false, .int .i64 0, .bool false, .int .i64 0] 38)) W') := fun W' hb => ⟨(keep_cell (below_boxS hb) hc0), hb⟩
    refine wp_region_noPanic ?_
    refine wp_region_held_drew (S := fun W' => W'.cell? ⟨b, off, none⟩ = some (.int .u8 d0) ∧ Below (w.heap.size + 1) (w.alloc (.cells #[.int .i64 0, .int .i64 0, .int .i64 0, .bool false, .int .i64 0, .bool false, .int .i64 0] 38)) W') (by kernel_rfl) (HS.out _ (Below.refl _ _).drew) (fun hH => ?_)
    refine hTake (i := 0) (v := ?_) rfl (by kernel_rfl) (by kernel_rfl) (by kernel_rfl) (by rfl) ?_ hH ?_
    rotate_left
    · intro W hW; (try dsimp only at hW); go_simp <;> with_reducible rfl
    simp only [Act.put, List.setIfInBounds_toArray, List.set_cons_zero, List.set_cons_succ]
    refine hTake (i := 1) (v := ?_) rfl (by kernel_rfl) (by kernel_rfl) (by kernel_rfl) (by rfl) ?_ hH ?_
    rotate_left
    · intro W hW; (try dsimp only at hW); go_simp <;> with_reducible rfl
    simp only [Act.put, List.setIfInBounds_toArray, List.set_cons_zero, List.set_cons_succ]
    refine hTake (i := 2) (v := ?_) rfl (by kernel_rfl) (by kernel_rfl) (by kernel_rfl) (by rfl) ?_ hH ?_
    rotate_left
    · intro W hW; (try dsimp only at hW); go_simp <;> with_reducible rfl
    simp only [Act.put, List.setIfInBounds_toArray, List.set_cons_zero, List.set_cons_succ]
    refine hTake (i := 3) (v := ?_) rfl (by kernel_rfl) (by kernel_rfl) (by kernel_rfl) (by rfl) ?_ hH ?_
    rotate_left
    · intro W hW; (try dsimp only at hW); go_simp <;> with_reducible rfl
    simp only [Act.put, List.setIfInBounds_toArray, List.set_cons_zero, List.set_cons_succ]
    refine hTake (i := 4) (v := ?_) rfl (by kernel_rfl) (by kernel_rfl) (by kernel_rfl) (by rfl) ?_ hH ?_
    rotate_left
    · intro W hW; (try dsimp only at hW); go_simp <;> with_reducible rfl
    simp only [Act.put, List.setIfInBounds_toArray, List.set_cons_zero, List.set_cons_succ]
    refine wpAnyH_ready (rs := [5, 7]) (by kernel_rfl) (by simp) ?_
    refine AllReadyH.cons rfl (fun K hK => ?_) (AllReadyH.cons rfl (fun K hK => ?_) AllReadyH.nil)
    focus
      go_simp
      refine (tk1 _ hH.2).mono ?_
      rintro e w1 ⟨rfl, hh1, bq⟩
      have bq := hH.2.trans (bq.mono (by simp))
      go_wp2_with fail
      refine hK.out _ _ ?_ (fun hH => ?_)
      · exact HS.out _ bq
      clear hK K
      refine hTake (i := 6) (v := ?_) rfl (by kernel_rfl) (by kernel_rfl) (by kernel_rfl) (by rfl) ?_ hH ?_
      rotate_left
      · intro W hW; (try dsimp only at hW); go_simp <;> with_reducible rfl
      simp only [Act.put, List.setIfInBounds_toArray, List.set_cons_zero, List.set_cons_succ]
      refine wpAnyH_ready (rs := [7]) (by kernel_rfl) (by simp) ?_
      refine AllReadyH.cons rfl (fun K hK => ?_) AllReadyH.nil
      go_simp
      refine hK.out _ _ ?_ (fun hH => ?_)
      · exact HS.out _ (hH.2.alloc (by first | (simp; done) | (have := hH.2.size; simp at this; omega)) _)
      clear hK K
      have zq := bq.size
      simp at zq
      have hsq : w1.heap.size = w.heap.size + 1 := by rw [hh1]; simp
      refine wpAnyH_ready (rs := [8]) (by kernel_rfl) (by simp) ?_
      refine AllReadyH.cons rfl (fun K hK => ?_) AllReadyH.nil
      go_simp
      refine hK.out _ _ ?_ (fun hH => ?_)
      · exact HS.out _ (bq.alloc zq _)
      clear hK K
      refine wpAnyH_done (by kernel_rfl) ?_ _
      refine NoPanic.normal ?_
      go_wp2_with fail
      go_meet
      exact ⟨rfl, heap_new' hsq.symm, bq.alloc zq _, by simp [hsq]⟩
    rotate_left
    focus
      go_simp
      refine hK.out _ _ ?_ (fun hH => ?_)
      · exact HS.out _ (hH.2.alloc (by first | (simp; done) | (have := hH.2.size; simp at this; omega)) _)
      clear hK K
      refine wpAnyH_ready (rs := [5]) (by kernel_rfl) (by simp) ?_
      refine AllReadyH.cons rfl (fun K hK => ?_) AllReadyH.nil
      go_simp
      refine (tk1 _ hH.2).mono ?_
      rintro e w1 ⟨rfl, hh1, bq⟩
      have bq := hH.2.trans (bq.mono (by simp))
      go_wp2_with fail
      refine hK.out _ _ ?_ (fun hH => ?_)
      · exact HS.out _ bq
      clear hK K
      refine hTake (i := 6) (v := ?_) rfl (by kernel_rfl) (by kernel_rfl) (by kernel_rfl) (by rfl) ?_ hH ?_
      rotate_left
      · intro W hW; (try dsimp only at hW); go_simp <;> with_reducible rfl
      simp only [Act.put, List.setIfInBounds_toArray, List.set_cons_zero, List.set_cons_succ]
      have hR : w1.heap[w.heap.size + 1]? = some (.cells #[.int .i64 0, .int .i64 0, .int .i64 0, .bool false, .int .i64 0, .bool false, .int .i64 0] 38 (0, 0)) := by rw [hh1]; exact heap_new' (by simp)
      have hsq : w1.heap.size = w.heap.size + 2 := by rw [hh1]; simp
      obtain ⟨x0, x1, x2, x3, x4, x5, x6⟩ := row7 hR
      obtain ⟨f0, f1, f2, f3, f4, f5, f6⟩ := frz7 hR
      refine wpAnyH_ready (rs := [8]) (by kernel_rfl) (by simp) ?_
      refine AllReadyH.cons rfl (fun K hK => ?_) AllReadyH.nil
      go_simp
      refine hK.out _ _ ?_ (fun hH => ?_)
      · exact HS.out _ (below_set7 bq (by omega) _ _ _ _ _ _ _)
      clear hK K
      clear x0 x1 x2 x3 x4 x5 x6 f0 f1 f2 f3 f4 f5 f6
      refine wpAnyH_done (by kernel_rfl) ?_ _
      refine NoPanic.normal ?_
      go_wp2_with fail
      go_meet
      exact ⟨rfl, set7_row hR _ _ _ _ _ _ _, below_set7 bq (by omega) _ _ _ _ _ _ _, by simp [hsq]⟩
    rotate_left
  case rest =>
  obtain ⟨rfl, hR, hB, hsz⟩ := hcut
  clear tk1 hc0
  obtain ⟨x0, x1, x2, x3, x4, x5, x6⟩ := row7 hR
  have j1 : (5 : Int) ≤ (n : Int) := by omega
  have j2 : (5 : Int) ≤ (cap : Int) := by omega
  have j3 : 5 ≤ cap := by omega
  have HLn : Hid (Ch.Rec.len ⟨d0, d1 * 256 + d2, 0, false, 0, false, 0⟩ = 5) := by show _ = _; simp [Ch.Rec.len, hset]
  go_upto_region 14 with (go_at_call 69; refine (l2Sets_any _ _).mono ?_; rintro e w1 ⟨rfl, hw1⟩; subst w1)
  by_cases hf : Ch.Rec.fault ⟨d0, d1 * 256 + d2, 0, false, 0, false, 0⟩ = 0
  · have HF : Hid (Ch.Rec.fault ⟨d0, d1 * 256 + d2, 0, false, 0, false, 0⟩ = 0) := hf
    have fit := Ch.Rec.fit hf
    have E0 := nums_eq (isB_of (Ch.Rec.all_bytes fit)) (isB_take hb 5)
    have HP : Hid (decide (Ch.Rec.bytes ⟨d0, d1 * 256 + d2, 0, false, 0, false, 0⟩ = zs.take 5) = decide (Ch.Rec.bytes ⟨d0, d1 * 256 + d2, 0, false, 0, false, 0⟩ <+: zs)) := by
      show _ = _
      rw [← prefix_iff, Ch.Rec.bytes_len, HLn.out]
      by_cases e : zs.take 5 = Ch.Rec.bytes ⟨d0, d1 * 256 + d2, 0, false, 0, false, 0⟩
      · simp [e]
      · simp [e, Ne.symm e]
    clear hf
    by_cases hp : Ch.Rec.bytes ⟨d0, d1 * 256 + d2, 0, false, 0, false, 0⟩ <+: zs
    · rw [HP.out, decide_eq_true hp] at E0
      have HV : Hid (Ch.firstV zs = (⟨d0, d1 * 256 + d2, 0, false, 0, false, 0⟩, 5)) := by
        have := Ch.firstV_some (zs := zs) (by rw [HU.out]; exact HF.out) (by rw [HU.out]; exact hp)
        rw [HU.out, HLn.out] at this
        exact this
      clear hp HP
      have HS : Hid (∀ W', Below wc.heap.size wc W' → W'.cell? ⟨w.heap.size + 1, 0, none⟩ = some (.int .i64 (d0)) ∧ W'.cell? ⟨w.heap.size + 1, 1, none⟩ = some (.int .i64 (d1 * 256 + d2)) ∧ W'.cell? ⟨w.heap.size + 1, 2, none⟩ = some (.int .i64 (0)) ∧ W'.cell? ⟨w.heap.size + 1, 3, none⟩ = some (.bool (false)) ∧ W'.cell? ⟨w.heap.size + 1, 4, none⟩ = some (.int .i64 (0)) ∧ W'.cell? ⟨w.heap.size + 1, 5, none⟩ = some (.bool (false)) ∧ W'.cell? ⟨w.heap.size + 1, 6, none⟩ = some (.int .i64 (0)) ∧ (convert 22 9 (.slice (some ⟨b, off, none⟩) 5 cap)).run Try.prog W' = .ok (.string (strOfNums (zs.take 5))) W' ∧ Below wc.heap.size wc W') := fun W' hb' => ⟨keep_cell hb' x0, keep_cell hb' x1, keep_cell hb' x2, keep_cell hb' x3, keep_cell hb' x4, keep_cell hb' x5, keep_cell hb' x6, conv_any ((h.take (m := 5) (by omega)).below ((below_boxS hB).trans (hb'.mono (below_boxS hB).size))) cap, hb'⟩
      refine wp_region_noPanic ?_
      refine wp_region_held_drew (S := fun W' => W'.cell? ⟨w.heap.size + 1, 0, none⟩ = some (.int .i64 (d0)) ∧ W'.cell? ⟨w.heap.size + 1, 1, none⟩ = some (.int .i64 (d1 * 256 + d2)) ∧ W'.cell? ⟨w.heap.size + 1, 2, none⟩ = some (.int .i64 (0)) ∧ W'.cell? ⟨w.heap.size + 1, 3, none⟩ = some (.bool (false)) ∧ W'.cell? ⟨w.heap.size + 1, 4, none⟩ = some (.int .i64 (0)) ∧ W'.cell? ⟨w.heap.size + 1, 5, none⟩ = some (.bool (false)) ∧ W'.cell? ⟨w.heap.size + 1, 6, none⟩ = some (.int .i64 (0)) ∧ (convert 22 9 (.slice (some ⟨b, off, none⟩) 5 cap)).run Try.prog W' = .ok (.string (strOfNums (zs.take 5))) W' ∧ Below wc.heap.size wc W') (by kernel_rfl) (HS.out _ (Below.refl _ _).drew) (fun hH => ?_)
      refine hTake (i := 0) (v := ?_) rfl (by kernel_rfl) (by kernel_rfl) (by kernel_rfl) (by rfl) ?_ hH ?_
      rotate_left
      · intro W hW; (try dsimp only at hW); go_simp <;> with_reducible rfl
      simp only [Act.put, List.setIfInBounds_toArray, List.set_cons_zero, List.set_cons_succ]
      refine wpAnyH_ready (rs := [1]) (by kernel_rfl) (by simp) ?_
      refine AllReadyH.cons rfl (fun K hK => ?_) AllReadyH.nil
      go_simp
      refine (specRec_any (d0) (d1 * 256 + d2) (0) (false) (0) (false) (0) _).mono ?_
      rintro e w1 ⟨rfl, b1⟩
      rw [HF.out]
      have b1 := hH.2.2.2.2.2.2.2.2.trans (b1.mono (by simp))
      go_wp2_with fail
      refine hK.out _ _ ?_ (fun hH => ?_)
      · exact HS.out _ b1
      clear hK K
      refine hTake (i := 2) (v := ?_) rfl (by kernel_rfl) (by kernel_rfl) (by kernel_rfl) (by rfl) ?_ hH ?_
      rotate_left
      · intro W hW; (try dsimp only at hW); go_simp <;> with_reducible rfl
      simp only [Act.put, List.setIfInBounds_toArray, List.set_cons_zero, List.set_cons_succ]
      refine hTake (i := 3) (v := ?_) rfl (by kernel_rfl) (by kernel_rfl) (by kernel_rfl) (by rfl) ?_ hH ?_
      rotate_left
      · intro W hW; (try dsimp only at hW); go_simp <;> with_reducible rfl
      simp only [Act.put, List.setIfInBounds_toArray, List.set_cons_zero, List.set_cons_succ]
      refine hTake (i := 4) (v := ?_) rfl (by kernel_rfl) (by kernel_rfl) (by kernel_rfl) (by rfl) ?_ hH ?_
      rotate_left
      · intro W hW; (try dsimp only at hW); go_simp <;> with_reducible rfl
      simp only [Act.put, List.setIfInBounds_toArray, List.set_cons_zero, List.set_cons_succ]
      refine hTake (i := 7) (v := ?_) rfl (by kernel_rfl) (by kernel_rfl) (by kernel_rfl) (by rfl) ?_ hH ?_
      rotate_left
      · intro W hW; (try dsimp only at hW); go_simp <;> with_reducible rfl
      simp only [Act.put, List.setIfInBounds_toArray, List.set_cons_zero, List.set_cons_succ]
      refine hTake (i := 8) (v := ?_) rfl (by kernel_rfl) (by kernel_rfl) (by kernel_rfl) (by rfl) ?_ hH ?_
      rotate_left
      · intro W hW; (try dsimp only at hW); go_simp <;> with_reducible rfl
      simp only [Act.put, List.setIfInBounds_toArray, List.set_cons_zero, List.set_cons_succ]
      refine hTake (i := 9) (v := ?_) rfl (by kernel_rfl) (by kernel_rfl) (by kernel_rfl) (by rfl) ?_ hH ?_
      rotate_left
      · intro W hW; (try dsimp only at hW); go_simp <;> with_reducible rfl
      simp only [Act.put, List.setIfInBounds_toArray, List.set_cons_zero, List.set_cons_succ]
      refine hTake (i := 10) (v := ?_) rfl (by kernel_rfl) (by kernel_rfl) (by kernel_rfl) (by rfl) ?_ hH ?_
      rotate_left
      · intro W hW; (try dsimp only at hW); go_simp <;> with_reducible rfl
      simp only [Act.put, List.setIfInBounds_toArray, List.set_cons_zero, List.set_cons_succ]
      refine wpAnyH_ready (rs := [5]) (by kernel_rfl) (by simp) ?_
      refine AllReadyH.cons rfl (fun K hK => ?_) AllReadyH.nil
      go_simp
      refine (l2Pack_any (d0) (d1 * 256 + d2) (0) (false) (0) (false) (0) _ fit).mono ?_
      rw [HLn.out]
      rintro e w2 ⟨g, cp, rfl, own, b2⟩
      have b2 := hH.2.2.2.2.2.2.2.2.trans (b2.mono b1.size)
      have hcv := conv_any (w := w2) (a := some ⟨g, 0, none⟩) (n := 5) (zs := Ch.Rec.bytes ⟨d0, d1 * 256 + d2, 0, false, 0, false, 0⟩) (by simpa using owns_cells own) cp
      go_wp2_with fail
      refine hK.out _ _ ?_ (fun hH => ?_)
      · exact HS.out _ b2
      clear hK K
      refine wpAnyH_ready (rs := [6]) (by kernel_rfl) (by simp) ?_
      refine AllReadyH.cons rfl (fun K hK => ?_) AllReadyH.nil
      go_simp
      refine hK.out _ _ ?_ (fun hH => ?_)
      · exact hH
      clear hK K
      refine hTake (i := 11) (v := ?_) rfl (by kernel_rfl) (by kernel_rfl) (by kernel_rfl) (by rfl) ?_ hH ?_
      rotate_left
      · intro W hW; (try dsimp only at hW); go_simp <;> with_reducible rfl
      simp only [Act.put, List.setIfInBounds_toArray, List.set_cons_zero, List.set_cons_succ]
      refine hTake (i := 12) (v := ?_) rfl (by kernel_rfl) (by kernel_rfl) (by kernel_rfl) (by rfl) ?_ hH ?_
      rotate_left
      · intro W hW; (try dsimp only at hW); go_simp <;> with_reducible rfl
      simp only [Act.put, List.setIfInBounds_toArray, List.set_cons_zero, List.set_cons_succ]
      refine wpAnyH_done (by kernel_rfl) ?_ _
      refine NoPanic.normal ?_
      clear hcv E0 HLn
      have zc := b2.size
      have x0 := keep_cell b2 x0
      have x1 := keep_cell b2 x1
      have x2 := keep_cell b2 x2
      have x3 := keep_cell b2 x3
      have x4 := keep_cell b2 x4
      have x5 := keep_cell b2 x5
      have x6 := keep_cell b2 x6
      have bF := hB.trans (b2.mono (by omega))
      have bF' : Below (w.alloc (.cells #[.int .i64 0, .int .i64 0, .int .i64 0, .bool false, .int .i64 0, .bool false, .int .i64 0] 38)).heap.size (w.alloc (.cells #[.int .i64 0, .int .i64 0, .int .i64 0, .bool false, .int .i64 0, .bool false, .int .i64 0] 38)) w2 := by simpa using bF
      obtain ⟨y0, y1, y2, y3, y4, y5, y6⟩ := box7 bF'
      have g0 := bF.frozen (p := ⟨w.heap.size, 0, none⟩) (by simp)
      have g1 := bF.frozen (p := ⟨w.heap.size, 1, none⟩) (by simp)
      have g2 := bF.frozen (p := ⟨w.heap.size, 2, none⟩) (by simp)
      have g3 := bF.frozen (p := ⟨w.heap.size, 3, none⟩) (by simp)
      have g4 := bF.frozen (p := ⟨w.heap.size, 4, none⟩) (by simp)
      have g5 := bF.frozen (p := ⟨w.heap.size, 5, none⟩) (by simp)
      have g6 := bF.frozen (p := ⟨w.heap.size, 6, none⟩) (by simp)
      simp [go_sem] at g0 g1 g2 g3 g4 g5 g6
      have bE := below_boxS bF
      have zE := lt_of_cell y0
      clear bF bF'
      go_wp2_with fail
      rw [HV.out]
      refine bodyPost_ret (v := .tuple #[.agg #[.int .i64 (d0), .int .i64 (d1 * 256 + d2), .int .i64 (0), .bool (false), .int .i64 (0), .bool (false), .int .i64 (0)], .int .i64 5]) (by simp [results, Try.results58, go_sem, zE, y0, y1, y2, y3, y4, y5, y6]) rfl ⟨rfl, ?_⟩
      repeat (first | with_reducible exact bE | with_reducible refine Below.drew ?_ | with_reducible refine Below.alloc ?_ (by first | omega | (simp; done) | (simp; omega)) _ | with_reducible refine Below.setCell ?_ (by simp) _)
    · rw [HP.out, decide_eq_false hp] at E0
      have HV : Hid (Ch.firstV zs = (Ch.Rec.zero, 0)) := Ch.firstV_none (by rw [HU.out]; exact fun hh => hp hh.2)
      clear hp HP
      have HS : Hid (∀ W', Below wc.heap.size wc W' → W'.cell? ⟨w.heap.size + 1, 0, none⟩ = some (.int .i64 (d0)) ∧ W'.cell? ⟨w.heap.size + 1, 1, none⟩ = some (.int .i64 (d1 * 256 + d2)) ∧ W'.cell? ⟨w.heap.size + 1, 2, none⟩ = some (.int .i64 (0)) ∧ W'.cell? ⟨w.heap.size + 1, 3, none⟩ = some (.bool (false)) ∧ W'.cell? ⟨w.heap.size + 1, 4, none⟩ = some (.int .i64 (0)) ∧ W'.cell? ⟨w.heap.size + 1, 5, none⟩ = some (.bool (false)) ∧ W'.cell? ⟨w.heap.size + 1, 6, none⟩ = some (.int .i64 (0)) ∧ (convert 22 9 (.slice (some ⟨b, off, none⟩) 5 cap)).run Try.prog W' = .ok (.string (strOfNums (zs.take 5))) W' ∧ Below wc.heap.size wc W') := fun W' hb' => ⟨keep_cell hb' x0, keep_cell hb' x1, keep_cell hb' x2, keep_cell hb' x3, keep_cell hb' x4, keep_cell hb' x5, keep_cell hb' x6, conv_any ((h.take (m := 5) (by omega)).below ((below_boxS hB).trans (hb'.mono (below_boxS hB).size))) cap, hb'⟩
      refine wp_region_noPanic ?_
      refine wp_region_held_drew (S := fun W' => W'.cell? ⟨w.heap.size + 1, 0, none⟩ = some (.int .i64 (d0)) ∧ W'.cell? ⟨w.heap.size + 1, 1, none⟩ = some (.int .i64 (d1 * 256 + d2)) ∧ W'.cell? ⟨w.heap.size + 1, 2, none⟩ = some (.int .i64 (0)) ∧ W'.cell? ⟨w.heap.size + 1, 3, none⟩ = some (.bool (false)) ∧ W'.cell? ⟨w.heap.size + 1, 4, none⟩ = some (.int .i64 (0)) ∧ W'.cell? ⟨w.heap.size + 1, 5, none⟩ = some (.bool (false)) ∧ W'.cell? ⟨w.heap.size + 1, 6, none⟩ = some (.int .i64 (0)) ∧ (convert 22 9 (.slice (some ⟨b, off, none⟩) 5 cap)).run Try.prog W' = .ok (.string (strOfNums (zs.take 5))) W' ∧ Below wc.heap.size wc W') (by kernel_rfl) (HS.out _ (Below.refl _ _).drew) (fun hH => ?_)
      refine hTake (i := 0) (v := ?_) rfl (by kernel_rfl) (by kernel_rfl) (by kernel_rfl) (by rfl) ?_ hH ?_
      rotate_left
      · intro W hW; (try dsimp only at hW); go_simp <;> with_reducible rfl
      simp only [Act.put, List.setIfInBounds_toArray, List.set_cons_zero, List.set_cons_succ]
      refine wpAnyH_ready (rs := [1]) (by kernel_rfl) (by simp) ?_
      refine AllReadyH.cons rfl (fun K hK => ?_) AllReadyH.nil
      go_simp
      refine (specRec_any (d0) (d1 * 256 + d2) (0) (false) (0) (false) (0) _).mono ?_
      rintro e w1 ⟨rfl, b1⟩
      rw [HF.out]
      have b1 := hH.2.2.2.2.2.2.2.2.trans (b1.mono (by simp))
      go_wp2_with fail
      refine hK.out _ _ ?_ (fun hH => ?_)
      · exact HS.out _ b1
      clear hK K
      refine hTake (i := 2) (v := ?_) rfl (by kernel_rfl) (by kernel_rfl) (by kernel_rfl) (by rfl) ?_ hH ?_
      rotate_left
      · intro W hW; (try dsimp only at hW); go_simp <;> with_reducible rfl
      simp only [Act.put, List.setIfInBounds_toArray, List.set_cons_zero, List.set_cons_succ]
      refine hTake (i := 3) (v := ?_) rfl (by kernel_rfl) (by kernel_rfl) (by kernel_rfl) (by rfl) ?_ hH ?_
      rotate_left
      · intro W hW; (try dsimp only at hW); go_simp <;> with_reducible rfl
      simp only [Act.put, List.setIfInBounds_toArray, List.set_cons_zero, List.set_cons_succ]
      refine hTake (i := 4) (v := ?_) rfl (by kernel_rfl) (by kernel_rfl) (by kernel_rfl) (by rfl) ?_ hH ?_
      rotate_left
      · intro W hW; (try dsimp only at hW); go_simp <;> with_reducible rfl
      simp only [Act.put, List.setIfInBounds_toArray, List.set_cons_zero, List.set_cons_succ]
      refine hTake (i := 7) (v := ?_) rfl (by kernel_rfl) (by kernel_rfl) (by kernel_rfl) (by rfl) ?_ hH ?_
      rotate_left
      · intro W hW; (try dsimp only at hW); go_simp <;> with_reducible rfl
      simp only [Act.put, List.setIfInBounds_toArray, List.set_cons_zero, List.set_cons_succ]
      refine hTake (i := 8) (v := ?_) rfl (by kernel_rfl) (by kernel_rfl) (by kernel_rfl) (by rfl) ?_ hH ?_
      rotate_left
      · intro W hW; (try dsimp only at hW); go_simp <;> with_reducible rfl
      simp only [Act.put, List.setIfInBounds_toArray, List.set_cons_zero, List.set_cons_succ]
      refine hTake (i := 9) (v := ?_) rfl (by kernel_rfl) (by kernel_rfl) (by kernel_rfl) (by rfl) ?_ hH ?_
      rotate_left
      · intro W hW; (try dsimp only at hW); go_simp <;> with_reducible rfl
      simp only [Act.put, List.setIfInBounds_toArray, List.set_cons_zero, List.set_cons_succ]
      refine hTake (i := 10) (v := ?_) rfl (by kernel_rfl) (by kernel_rfl) (by kernel_rfl) (by rfl) ?_ hH ?_
      rotate_left
      · intro W hW; (try dsimp only at hW); go_simp <;> with_reducible rfl
      simp only [Act.put, List.setIfInBounds_toArray, List.set_cons_zero, List.set_cons_succ]
      refine wpAnyH_ready (rs := [5]) (by kernel_rfl) (by simp) ?_
      refine AllReadyH.cons rfl (fun K hK => ?_) AllReadyH.nil
      go_simp
      refine (l2Pack_any (d0) (d1 * 256 + d2) (0) (false) (0) (false) (0) _ fit).mono ?_
      rw [HLn.out]
      rintro e w2 ⟨g, cp, rfl, own, b2⟩
      have b2 := hH.2.2.2.2.2.2.2.2.trans (b2.mono b1.size)
      have hcv := conv_any (w := w2) (a := some ⟨g, 0, none⟩) (n := 5) (zs := Ch.Rec.bytes ⟨d0, d1 * 256 + d2, 0, false, 0, false, 0⟩) (by simpa using owns_cells own) cp
      go_wp2_with fail
      refine hK.out _ _ ?_ (fun hH => ?_)
      · exact HS.out _ b2
      clear hK K
      refine wpAnyH_ready (rs := [6]) (by kernel_rfl) (by simp) ?_
      refine AllReadyH.cons rfl (fun K hK => ?_) AllReadyH.nil
      go_simp
      refine hK.out _ _ ?_ (fun hH => ?_)
      · exact hH
      clear hK K
      refine hTake (i := 11) (v := ?_) rfl (by kernel_rfl) (by kernel_rfl) (by kernel_rfl) (by rfl) ?_ hH ?_
      rotate_left
      · intro W hW; (try dsimp only at hW); go_simp <;> with_reducible rfl
      simp only [Act.put, List.setIfInBounds_toArray, List.set_cons_zero, List.set_cons_succ]
      refine hTake (i := 12) (v := ?_) rfl (by kernel_rfl) (by kernel_rfl) (by kernel_rfl) (by rfl) ?_ hH ?_
      rotate_left
      · intro W hW; (try dsimp only at hW); go_simp <;> with_reducible rfl
      simp only [Act.put, List.setIfInBounds_toArray, List.set_cons_zero, List.set_cons_succ]
      refine wpAnyH_done (by kernel_rfl) ?_ _
      refine NoPanic.normal ?_
      clear hcv E0 HLn
      have zc := b2.size
      have x0 := keep_cell b2 x0
      have x1 := keep_cell b2 x1
      have x2 := keep_cell b2 x2
      have x3 := keep_cell b2 x3
      have x4 := keep_cell b2 x4
      have x5 := keep_cell b2 x5
      have x6 := keep_cell b2 x6
      have bF := hB.trans (b2.mono (by omega))
      have bF' : Below (w.alloc (.cells #[.int .i64 0, .int .i64 0, .int .i64 0, .bool false, .int .i64 0, .bool false, .int .i64 0] 38)).heap.size (w.alloc (.cells #[.int .i64 0, .int .i64 0, .int .i64 0, .bool false, .int .i64 0, .bool false, .int .i64 0] 38)) w2 := by simpa using bF
      obtain ⟨y0, y1, y2, y3, y4, y5, y6⟩ := box7 bF'
      have g0 := bF.frozen (p := ⟨w.heap.size, 0, none⟩) (by simp)
      have g1 := bF.frozen (p := ⟨w.heap.size, 1, none⟩) (by simp)
      have g2 := bF.frozen (p := ⟨w.heap.size, 2, none⟩) (by simp)
      have g3 := bF.frozen (p := ⟨w.heap.size, 3, none⟩) (by simp)
      have g4 := bF.frozen (p := ⟨w.heap.size, 4, none⟩) (by simp)
      have g5 := bF.frozen (p := ⟨w.heap.size, 5, none⟩) (by simp)
      have g6 := bF.frozen (p := ⟨w.heap.size, 6, none⟩) (by simp)
      simp [go_sem] at g0 g1 g2 g3 g4 g5 g6
      have bE := below_boxS bF
      have zE := lt_of_cell y0
      clear bF bF'
      go_wp2_with fail
      rw [HV.out]
      refine bodyPost_ret (v := .tuple #[.agg #[.int .i64 0, .int .i64 0, .int .i64 0, .bool false, .int .i64 0, .bool false, .int .i64 0], .int .i64 0]) (by simp [results, Try.results58, go_sem, zE, y0, y1, y2, y3, y4, y5, y6]) rfl ⟨rfl, ?_⟩
      repeat (first | with_reducible exact bE | with_reducible refine Below.drew ?_ | with_reducible refine Below.alloc ?_ (by first | omega | (simp; done) | (simp; omega)) _ | with_reducible refine Below.setCell ?_ (by simp) _)
  · have HV : Hid (Ch.firstV zs = (Ch.Rec.zero, 0)) := Ch.firstV_none (by rw [HU.out]; exact fun hh => hf hh.1)
    obtain ⟨fc, hfc⟩ : ∃ fc, fc = Ch.Rec.fault ⟨d0, d1 * 256 + d2, 0, false, 0, false, 0⟩ := ⟨_, rfl⟩
    rw [← hfc] at hf
    have HF : Hid (Ch.Rec.fault ⟨d0, d1 * 256 + d2, 0, false, 0, false, 0⟩ = fc) := hfc.symm
    have hc : (fc != 0) = true := by simpa using hf
    clear hfc hf
    have HS : Hid (∀ W', Below wc.heap.size wc W' → W'.cell? ⟨w.heap.size + 1, 0, none⟩ = some (.int .i64 (d0)) ∧ W'.cell? ⟨w.heap.size + 1, 1, none⟩ = some (.int .i64 (d1 * 256 + d2)) ∧ W'.cell? ⟨w.heap.size + 1, 2, none⟩ = some (.int .i64 (0)) ∧ W'.cell? ⟨w.heap.size + 1, 3, none⟩ = some (.bool (false)) ∧ W'.cell? ⟨w.heap.size + 1, 4, none⟩ = some (.int .i64 (0)) ∧ W'.cell? ⟨w.heap.size + 1, 5, none⟩ = some (.bool (false)) ∧ W'.cell? ⟨w.heap.size + 1, 6, none⟩ = some (.int .i64 (0)) ∧ (convert 22 9 (.slice (some ⟨b, off, none⟩) 5 cap)).run Try.prog W' = .ok (.string (strOfNums (zs.take 5))) W' ∧ Below wc.heap.size wc W') := fun W' hb' => ⟨keep_cell hb' x0, keep_cell hb' x1, keep_cell hb' x2, keep_cell hb' x3, keep_cell hb' x4, keep_cell hb' x5, keep_cell hb' x6, conv_any ((h.take (m := 5) (by omega)).below ((below_boxS hB).trans (hb'.mono (below_boxS hB).size))) cap, hb'⟩
    refine wp_region_noPanic ?_
    refine wp_region_held_drew (S := fun W' => W'.cell? ⟨w.heap.size + 1, 0, none⟩ = some (.int .i64 (d0)) ∧ W'.cell? ⟨w.heap.size + 1, 1, none⟩ = some (.int .i64 (d1 * 256 + d2)) ∧ W'.cell? ⟨w.heap.size + 1, 2, none⟩ = some (.int .i64 (0)) ∧ W'.cell? ⟨w.heap.size + 1, 3, none⟩ = some (.bool (false)) ∧ W'.cell? ⟨w.heap.size + 1, 4, none⟩ = some (.int .i64 (0)) ∧ W'.cell? ⟨w.heap.size + 1, 5, none⟩ = some (.bool (false)) ∧ W'.cell? ⟨w.heap.size + 1, 6, none⟩ = some (.int .i64 (0)) ∧ (convert 22 9 (.slice (some ⟨b, off, none⟩) 5 cap)).run Try.prog W' = .ok (.string (strOfNums (zs.take 5))) W' ∧ Below wc.heap.size wc W') (by kernel_rfl) (HS.out _ (Below.refl _ _).drew) (fun hH => ?_)
    refine hTake (i := 0) (v := ?_) rfl (by kernel_rfl) (by kernel_rfl) (by kernel_rfl) (by rfl) ?_ hH ?_
    rotate_left
    · intro W hW; (try dsimp only at hW); go_simp <;> with_reducible rfl
    simp only [Act.put, List.setIfInBounds_toArray, List.set_cons_zero, List.set_cons_succ]
    refine wpAnyH_ready (rs := [1]) (by kernel_rfl) (by simp) ?_
    refine AllReadyH.cons rfl (fun K hK => ?_) AllReadyH.nil
    go_simp
    refine (specRec_any (d0) (d1 * 256 + d2) (0) (false) (0) (false) (0) _).mono ?_
    rintro e w1 ⟨rfl, b1⟩
    rw [HF.out]
    have b1 := hH.2.2.2.2.2.2.2.2.trans (b1.mono (by simp))
    go_wp2_with fail
    refine hK.out _ _ ?_ (fun hH => ?_)
    · exact HS.out _ b1
    clear hK K
    refine hTake (i := 2) (v := ?_) rfl (by kernel_rfl) (by kernel_rfl) (by kernel_rfl) (by rfl) ?_ hH ?_
    rotate_left
    · intro W hW; (try dsimp only at hW); go_simp <;> with_reducible rfl
    simp only [Act.put, List.setIfInBounds_toArray, List.set_cons_zero, List.set_cons_succ]
    refine hTake (i := 3) (v := ?_) rfl (by kernel_rfl) (by kernel_rfl) (by kernel_rfl) (by rfl) ?_ hH ?_
    rotate_left
    · intro W hW; (try dsimp only at hW); go_simp <;> with_reducible rfl
    simp only [Act.put, List.setIfInBounds_toArray, List.set_cons_zero, List.set_cons_succ]
    refine hSkip (i := 4) rfl (by kernel_rfl) (by kernel_rfl) (by kernel_rfl) (by rfl) hH ?_
    simp only [Act.put, List.setIfInBounds_toArray, List.set_cons_zero, List.set_cons_succ]
    refine hSkip (i := 5) rfl (by kernel_rfl) (by kernel_rfl) (by kernel_rfl) (by rfl) hH ?_
    simp only [Act.put, List.setIfInBounds_toArray, List.set_cons_zero, List.set_cons_succ]
    refine hSkip (i := 6) rfl (by kernel_rfl) (by kernel_rfl) (by kernel_rfl) (by rfl) hH ?_
    simp only [Act.put, List.setIfInBounds_toArray, List.set_cons_zero, List.set_cons_succ]
    refine hSkip (i := 7) rfl (by kernel_rfl) (by kernel_rfl) (by kernel_rfl) (by rfl) hH ?_
    simp only [Act.put, List.setIfInBounds_toArray, List.set_cons_zero, List.set_cons_succ]
    refine hSkip (i := 8) rfl (by kernel_rfl) (by kernel_rfl) (by kernel_rfl) (by rfl) hH ?_
    simp only [Act.put, List.setIfInBounds_toArray, List.set_cons_zero, List.set_cons_succ]
    refine hSkip (i := 9) rfl (by kernel_rfl) (by kernel_rfl) (by kernel_rfl) (by rfl) hH ?_
    simp only [Act.put, List.setIfInBounds_toArray, List.set_cons_zero, List.set_cons_succ]
    refine hSkip (i := 10) rfl (by kernel_rfl) (by kernel_rfl) (by kernel_rfl) (by rfl) hH ?_
    simp only [Act.put, List.setIfInBounds_toArray, List.set_cons_zero, List.set_cons_succ]
    refine hSkip (i := 11) rfl (by kernel_rfl) (by kernel_rfl) (by kernel_rfl) (by rfl) hH ?_
    simp only [Act.put, List.setIfInBounds_toArray, List.set_cons_zero, List.set_cons_succ]
    refine hTake (i := 12) (v := ?_) rfl (by kernel_rfl) (by kernel_rfl) (by kernel_rfl) (by rfl) ?_ hH ?_
    rotate_left
    · intro W hW; (try dsimp only at hW); go_simp <;> with_reducible rfl
    simp only [Act.put, List.setIfInBounds_toArray, List.set_cons_zero, List.set_cons_succ]
    refine wpAnyH_done (by kernel_rfl) ?_ _
    refine NoPanic.normal ?_
    clear HLn
    have zc := b1.size
    have bF := hB.trans (b1.mono (by omega))
    have bF' : Below (w.alloc (.cells #[.int .i64 0, .int .i64 0, .int .i64 0, .bool false, .int .i64 0, .bool false, .int .i64 0] 38)).heap.size (w.alloc (.cells #[.int .i64 0, .int .i64 0, .int .i64 0, .bool false, .int .i64 0, .bool false, .int .i64 0] 38)) w1 := by simpa using bF
    obtain ⟨y0, y1, y2, y3, y4, y5, y6⟩ := box7 bF'
    have g0 := bF.frozen (p := ⟨w.heap.size, 0, none⟩) (by simp)
    have g1 := bF.frozen (p := ⟨w.heap.size, 1, none⟩) (by simp)
    have g2 := bF.frozen (p := ⟨w.heap.size, 2, none⟩) (by simp)
    have g3 := bF.frozen (p := ⟨w.heap.size, 3, none⟩) (by simp)
    have g4 := bF.frozen (p := ⟨w.heap.size, 4, none⟩) (by simp)
    have g5 := bF.frozen (p := ⟨w.heap.size, 5, none⟩) (by simp)
    have g6 := bF.frozen (p := ⟨w.heap.size, 6, none⟩) (by simp)
    simp [go_sem] at g0 g1 g2 g3 g4 g5 g6
    have bE := below_boxS bF
    have zE := lt_of_cell y0
    clear bF bF'
    go_wp2_with fail
    rw [HV.out]
    refine bodyPost_ret (v := .tuple #[.agg #[.int .i64 0, .int .i64 0, .int .i64 0, .bool false, .int .i64 0, .bool false, .int .i64 0], .int .i64 0]) (by simp [results, Try.results58, go_sem, zE, y0, y1, y2, y3, y4, y5, y6]) rfl ⟨rfl, ?_⟩
    repeat (first | with_reducible exact bE | with_reducible refine Below.drew ?_ | with_reducible refine Below.alloc ?_ (by first | omega | (simp; done) | (simp; omega)) _ | with_reducible refine Below.setCell ?_ (by simp) _)
end Go.Proofs.Ytommekhmdmnjlaa
