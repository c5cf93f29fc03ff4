
/- Walks of the first record of bytes: the model's, of a change. -/
import Derived.Test.YtommekhmdmnjlaaOneW
namespace Go.Proofs.Ytommekhmdmnjlaa
open Go.RowKit

set_option linter.unusedSimpArgs false in
set_option maxRecDepth 10000 in
set_option maxHeartbeats 8000000 in
theorem l2One_few (b off n cap : Nat) (zs : List Int) (w : World) (h : CellsAt w (some ⟨b, off, none⟩) n (bts zs)) (hb : IsB zs) (hn : n ≤ 1048576) (_hcap : n ≤ cap) (h5 : 5 ≤ n) (h11 : n < 11) (hset : Ch.sets (zs.getD 0 0) = true) :
    Calls Try.prog 58 #[.slice (some ⟨b, off, none⟩) n cap] w fun e w' => e = .returned (.tuple #[recV (Ch.firstV zs).1, .int .i64 (Ch.firstV zs).2]) ∧ Below w.heap.size w w' := by
  have HL := h.len
  have h5' : ¬ (n : Int) < 5 := by omega
  have i0 : (0 : Int) < (n : Int) := by omega
  have i0n : 0 < n := by omega
  obtain ⟨b', off', hbo, hc0⟩ := h.at (show 0 < n by omega)
  simp only [Option.some.injEq, Addr.mk.injEq, and_true] at hbo
  obtain ⟨rfl, rfl⟩ := hbo
  rw [Nat.add_zero] at hc0
  obtain ⟨p0, q0⟩ := hb 0
  obtain ⟨p1, q1⟩ := hb 1
  obtain ⟨p2, q2⟩ := hb 2
  have tk1 := fun (W : World) (hW : Below (w.heap.size + 1) (w.alloc (.cells #[.int .i64 0, .int .i64 0, .int .i64 0, .bool false, .int .i64 0, .bool false, .int .i64 0] 38)) W) => take_abs (some ⟨b, off, none⟩) n cap 1 zs W (h.below (below_boxS hW)) hb (by omega) (by omega)
  simp only [Nat.reduceAdd, Int.reduceNeg, Int.cast_ofNat_Int] at tk1
  have HV : Hid (Ch.firstV zs = (Ch.Rec.zero, 0)) := Ch.firstV_none (fun hh => by
    have e1 := hh.2.length_le
    have e2 := Ch.Rec.bytes_len (Ch.unp zs)
    have e3 : (Ch.unp zs).len = 11 := by unfold Ch.unp; rw [if_pos hset]; simp only [Ch.Rec.len]; rw [if_pos hset]
    have e4 := HL.out
    omega)
  have i11 : (n : Int) < 11 := by omega
  generalize zs.getD 0 0 = d0 at *
  generalize zs.getD 1 0 = d1 at *
  generalize zs.getD 2 0 = d2 at *
  have hw0 : IntKind.i64.wrap d0 = d0 := IntWalk.i64_in d0 ⟨by omega, by omega⟩
  go_enter Try.func58, Try.ntmps58
  go_upto_region 3 with fail
  go_cut [4] (fun s wx => s = .pointer (some ⟨w.heap.size + 1, 0, none⟩) ∧ wx.heap[w.heap.size + 1]? = some (.cells #[.int .i64 d0, .int .i64 (d1 * 256 + d2), .int .i64 0, .bool false, .int .i64 0, .bool false, .int .i64 0] 38 (0, 0)) ∧ Below (w.heap.size + 1) (w.alloc (.cells #[.int .i64 0, .int .i64 0, .int .i64 0, .bool false, .int .i64 0, .bool false, .int .i64 0] 38)) wx ∧ wx.heap.size = w.heap.size + 2)
  case first =>
    have HS : Hid (∀ W', Below (w.heap.size + 1) (w.alloc (.cells #[.int .i64 0, .int .i64 0, .int .i64 0, .bool false, .int .i64 0, .bool false, .int .i64 0] 38)) W' → W'.cell? ⟨b, off, none⟩ = some (.int .u8 d0) ∧ Below (w.heap.size + 1) (w.alloc (.cells #[.int .i64 0, .int .i64 0, .int .i64 0, .bool false, .int .i64 0, .bool false, .int .i64 0] 38)) W') := fun W' hb => ⟨(keep_cell (below_boxS hb) hc0), hb⟩
    refine wp_region_noPanic ?_
    refine wp_region_held_drew (S := fun W' => W'.cell? ⟨b, off, none⟩ = some (.int .u8 d0) ∧ Below (w.heap.size + 1) (w.alloc (.cells #[.int .i64 0, .int .i64 0, .int .i64 0, .bool false, .int .i64 0, .bool false, .int .i64 0] 38)) W') (by kernel_rfl) (HS.out _ (Below.refl _ _).drew) (fun hH => ?_)
    refine hTake (i := 0) (v := ?_) rfl (by kernel_rfl) (by kernel_rfl) (by kernel_rfl) (by rfl) ?_ hH ?_
    rotate_left
    · intro W hW; (try dsimp only at hW); go_simp <;> with_reducible rfl
    simp only [Act.put, List.setIfInBounds_toArray, List.set_cons_zero, List.set_cons_succ]
    refine hTake (i := 1) (v := ?_) rfl (by kernel_rfl) (by kernel_rfl) (by kernel_rfl) (by rfl) ?_ hH ?_
    rotate_left
    · intro W hW; (try dsimp only at hW); go_simp <;> with_reducible rfl
    simp only [Act.put, List.setIfInBounds_toArray, List.set_cons_zero, List.set_cons_succ]
    refine hTake (i := 2) (v := ?_) rfl (by kernel_rfl) (by kernel_rfl) (by kernel_rfl) (by rfl) ?_ hH ?_
    rotate_left
    · intro W hW; (try dsimp only at hW); go_simp <;> with_reducible rfl
    simp only [Act.put, List.setIfInBounds_toArray, List.set_cons_zero, List.set_cons_succ]
    refine hTake (i := 3) (v := ?_) rfl (by kernel_rfl) (by kernel_rfl) (by kernel_rfl) (by rfl) ?_ hH ?_
    rotate_left
    · intro W hW; (try dsimp only at hW); go_simp <;> with_reducible rfl
    simp only [Act.put, List.setIfInBounds_toArray, List.set_cons_zero, List.set_cons_succ]
    refine hTake (i := 4) (v := ?_) rfl (by kernel_rfl) (by kernel_rfl) (by kernel_rfl) (by rfl) ?_ hH ?_
    rotate_left
    · intro W hW; (try dsimp only at hW); go_simp <;> with_reducible rfl
    simp only [Act.put, List.setIfInBounds_toArray, List.set_cons_zero, List.set_cons_succ]
    refine wpAnyH_ready (rs := [5, 7]) (by kernel_rfl) (by simp) ?_
    refine AllReadyH.cons rfl (fun K hK => ?_) (AllReadyH.cons rfl (fun K hK => ?_) AllReadyH.nil)
    focus
      go_simp
      refine (tk1 _ hH.2).mono ?_
      rintro e w1 ⟨rfl, hh1, bq⟩
      have bq := hH.2.trans (bq.mono (by simp))
      go_wp2_with fail
      refine hK.out _ _ ?_ (fun hH => ?_)
      · exact HS.out _ bq
      clear hK K
      refine hTake (i := 6) (v := ?_) rfl (by kernel_rfl) (by kernel_rfl) (by kernel_rfl) (by rfl) ?_ hH ?_
      rotate_left
      · intro W hW; (try dsimp only at hW); go_simp <;> with_reducible rfl
      simp only [Act.put, List.setIfInBounds_toArray, List.set_cons_zero, List.set_cons_succ]
      refine wpAnyH_ready (rs := [7]) (by kernel_rfl) (by simp) ?_
      refine AllReadyH.cons rfl (fun K hK => ?_) AllReadyH.nil
      go_simp
      refine hK.out _ _ ?_ (fun hH => ?_)
      · exact HS.out _ (hH.2.alloc (by first | (simp; done) | (have := hH.2.size; simp at this; omega)) _)
      clear hK K
      have zq := bq.size
      simp at zq
      have hsq : w1.heap.size = w.heap.size + 1 := by rw [hh1]; simp
      refine wpAnyH_ready (rs := [8]) (by kernel_rfl) (by simp) ?_
      refine AllReadyH.cons rfl (fun K hK => ?_) AllReadyH.nil
      go_simp
      refine hK.out _ _ ?_ (fun hH => ?_)
      · exact HS.out _ (bq.alloc zq _)
      clear hK K
      refine wpAnyH_done (by kernel_rfl) ?_ _
      refine NoPanic.normal ?_
      go_wp2_with fail
      go_meet
      exact ⟨rfl, heap_new' hsq.symm, bq.alloc zq _, by simp [hsq]⟩
    rotate_left
    focus
      go_simp
      refine hK.out _ _ ?_ (fun hH => ?_)
      · exact HS.out _ (hH.2.alloc (by first | (simp; done) | (have := hH.2.size; simp at this; omega)) _)
      clear hK K
      refine wpAnyH_ready (rs := [5]) (by kernel_rfl) (by simp) ?_
      refine AllReadyH.cons rfl (fun K hK => ?_) AllReadyH.nil
      go_simp
      refine (tk1 _ hH.2).mono ?_
      rintro e w1 ⟨rfl, hh1, bq⟩
      have bq := hH.2.trans (bq.mono (by simp))
      go_wp2_with fail
      refine hK.out _ _ ?_ (fun hH => ?_)
      · exact HS.out _ bq
      clear hK K
      refine hTake (i := 6) (v := ?_) rfl (by kernel_rfl) (by kernel_rfl) (by kernel_rfl) (by rfl) ?_ hH ?_
      rotate_left
      · intro W hW; (try dsimp only at hW); go_simp <;> with_reducible rfl
      simp only [Act.put, List.setIfInBounds_toArray, List.set_cons_zero, List.set_cons_succ]
      have hR : w1.heap[w.heap.size + 1]? = some (.cells #[.int .i64 0, .int .i64 0, .int .i64 0, .bool false, .int .i64 0, .bool false, .int .i64 0] 38 (0, 0)) := by rw [hh1]; exact heap_new' (by simp)
      have hsq : w1.heap.size = w.heap.size + 2 := by rw [hh1]; simp
      obtain ⟨x0, x1, x2, x3, x4, x5, x6⟩ := row7 hR
      obtain ⟨f0, f1, f2, f3, f4, f5, f6⟩ := frz7 hR
      refine wpAnyH_ready (rs := [8]) (by kernel_rfl) (by simp) ?_
      refine AllReadyH.cons rfl (fun K hK => ?_) AllReadyH.nil
      go_simp
      refine hK.out _ _ ?_ (fun hH => ?_)
      · exact HS.out _ (below_set7 bq (by omega) _ _ _ _ _ _ _)
      clear hK K
      clear x0 x1 x2 x3 x4 x5 x6 f0 f1 f2 f3 f4 f5 f6
      refine wpAnyH_done (by kernel_rfl) ?_ _
      refine NoPanic.normal ?_
      go_wp2_with fail
      go_meet
      exact ⟨rfl, set7_row hR _ _ _ _ _ _ _, below_set7 bq (by omega) _ _ _ _ _ _ _, by simp [hsq]⟩
    rotate_left
  case rest =>
  obtain ⟨rfl, hR, hB, hsz⟩ := hcut
  clear tk1 hc0
  obtain ⟨x0, x1, x2, x3, x4, x5, x6⟩ := row7 hR
  have bF' : Below (w.alloc (.cells #[.int .i64 0, .int .i64 0, .int .i64 0, .bool false, .int .i64 0, .bool false, .int .i64 0] 38)).heap.size (w.alloc (.cells #[.int .i64 0, .int .i64 0, .int .i64 0, .bool false, .int .i64 0, .bool false, .int .i64 0] 38)) wc := by simpa using hB
  obtain ⟨y0, y1, y2, y3, y4, y5, y6⟩ := box7 bF'
  have g0 := hB.frozen (p := ⟨w.heap.size, 0, none⟩) (by simp)
  have g1 := hB.frozen (p := ⟨w.heap.size, 1, none⟩) (by simp)
  have g2 := hB.frozen (p := ⟨w.heap.size, 2, none⟩) (by simp)
  have g3 := hB.frozen (p := ⟨w.heap.size, 3, none⟩) (by simp)
  have g4 := hB.frozen (p := ⟨w.heap.size, 4, none⟩) (by simp)
  have g5 := hB.frozen (p := ⟨w.heap.size, 5, none⟩) (by simp)
  have g6 := hB.frozen (p := ⟨w.heap.size, 6, none⟩) (by simp)
  simp [go_sem] at g0 g1 g2 g3 g4 g5 g6
  have bE := below_boxS hB
  have zE := lt_of_cell y0
  clear hB bF' hR
  go_wp2_with (go_at_call 69; refine (l2Sets_any _ _).mono ?_; rintro e w1 ⟨rfl, hw1⟩; subst w1)
  rw [HV.out]
  refine bodyPost_ret (v := .tuple #[.agg #[.int .i64 0, .int .i64 0, .int .i64 0, .bool false, .int .i64 0, .bool false, .int .i64 0], .int .i64 0]) (by simp [results, Try.results58, go_sem, zE, y0, y1, y2, y3, y4, y5, y6]) rfl ⟨rfl, ?_⟩
  repeat (first | with_reducible exact bE | with_reducible refine Below.drew ?_ | with_reducible refine Below.alloc ?_ (by first | omega | (simp; done) | (simp; omega)) _ | with_reducible refine Below.setCell ?_ (by simp) _)

set_option linter.unusedSimpArgs false in
set_option maxRecDepth 10000 in
set_option maxHeartbeats 8000000 in
theorem l2One_full (b off n cap : Nat) (zs : List Int) (w : World) (h : CellsAt w (some ⟨b, off, none⟩) n (bts zs)) (hb : IsB zs) (hn : n ≤ 1048576) (hcap : n ≤ cap) (h11 : 11 ≤ n) (hset : Ch.sets (zs.getD 0 0) = true) :
    Calls Try.prog 58 #[.slice (some ⟨b, off, none⟩) n cap] w fun e w' => e = .returned (.tuple #[recV (Ch.firstV zs).1, .int .i64 (Ch.firstV zs).2]) ∧ Below w.heap.size w w' := by
  have HL := h.len
  have h5' : ¬ (n : Int) < 5 := by omega
  have i0 : (0 : Int) < (n : Int) := by omega
  have i0n : 0 < n := by omega
  obtain ⟨b', off', hbo, hc0⟩ := h.at (show 0 < n by omega)
  simp only [Option.some.injEq, Addr.mk.injEq, and_true] at hbo
  obtain ⟨rfl, rfl⟩ := hbo
  rw [Nat.add_zero] at hc0
  obtain ⟨p0, q0⟩ := hb 0
  obtain ⟨p1, q1⟩ := hb 1
  obtain ⟨p2, q2⟩ := hb 2
  obtain ⟨p3, q3⟩ := hb 3
  obtain ⟨p4, q4⟩ := hb 4
  obtain ⟨p5, q5⟩ := hb 5
  obtain ⟨p6, q6⟩ := hb 6
  obtain ⟨p7, q7⟩ := hb 7
  obtain ⟨p8, q8⟩ := hb 8
  have tk1 := fun (W : World) (hW : Below (w.heap.size + 1) (w.alloc (.cells #[.int .i64 0, .int .i64 0, .int .i64 0, .bool false, .int .i64 0, .bool false, .int .i64 0] 38)) W) => take_abs (some ⟨b, off, none⟩) n cap 1 zs W (h.below (below_boxS hW)) hb (by omega) (by omega)
  simp only [Nat.reduceAdd, Int.reduceNeg, Int.cast_ofNat_Int] at tk1
  have tk5 := fun (W : World) (hW : Below (w.heap.size + 1) (w.alloc (.cells #[.int .i64 0, .int .i64 0, .int .i64 0, .bool false, .int .i64 0, .bool false, .int .i64 0] 38)) W) => take_abs (some ⟨b, off, none⟩) n cap 5 zs W (h.below (below_boxS hW)) hb (by omega) (by omega)
  simp only [Nat.reduceAdd, Int.reduceNeg, Int.cast_ofNat_Int] at tk5
  have tk7 := fun (W : World) (hW : Below (w.heap.size + 1) (w.alloc (.cells #[.int .i64 0, .int .i64 0, .int .i64 0, .bool false, .int .i64 0, .bool false, .int .i64 0] 38)) W) => take_abs (some ⟨b, off, none⟩) n cap 7 zs W (h.below (below_boxS hW)) hb (by omega) (by omega)
  simp only [Nat.reduceAdd, Int.reduceNeg, Int.cast_ofNat_Int] at tk7
  have hc3 : Hid (∀ W, Below (w.heap.size + 1) (w.alloc (.cells #[.int .i64 0, .int .i64 0, .int .i64 0, .bool false, .int .i64 0, .bool false, .int .i64 0] 38)) W → W.cell? ⟨b, off + 3, none⟩ = some (.int .u8 (zs.getD 3 0))) := by
    intro W hW
    obtain ⟨b', off', hbo, hc⟩ := h.at (show 3 < n by omega)
    simp only [Option.some.injEq, Addr.mk.injEq, and_true] at hbo
    obtain ⟨rfl, rfl⟩ := hbo
    exact keep_cell (below_boxS hW) hc
  have hc4 : Hid (∀ W, Below (w.heap.size + 1) (w.alloc (.cells #[.int .i64 0, .int .i64 0, .int .i64 0, .bool false, .int .i64 0, .bool false, .int .i64 0] 38)) W → W.cell? ⟨b, off + 4, none⟩ = some (.int .u8 (zs.getD 4 0))) := by
    intro W hW
    obtain ⟨b', off', hbo, hc⟩ := h.at (show 4 < n by omega)
    simp only [Option.some.injEq, Addr.mk.injEq, and_true] at hbo
    obtain ⟨rfl, rfl⟩ := hbo
    exact keep_cell (below_boxS hW) hc
  have HU : Hid (Ch.unp zs = ⟨zs.getD 0 0, zs.getD 1 0 * 256 + zs.getD 2 0, zs.getD 3 0, zs.getD 4 0 % 2 == 1, zs.getD 5 0 * 256 + zs.getD 6 0, zs.getD 4 0 / 2 % 2 == 1, zs.getD 7 0 * 256 + zs.getD 8 0⟩) := by show _ = _; unfold Ch.unp; rw [hset]; rfl
  generalize zs.getD 0 0 = d0 at *
  generalize zs.getD 1 0 = d1 at *
  generalize zs.getD 2 0 = d2 at *
  generalize zs.getD 3 0 = d3 at *
  generalize zs.getD 4 0 = d4 at *
  generalize zs.getD 5 0 = d5 at *
  generalize zs.getD 6 0 = d6 at *
  generalize zs.getD 7 0 = d7 at *
  generalize zs.getD 8 0 = d8 at *
  have hw0 : IntKind.i64.wrap d0 = d0 := IntWalk.i64_in d0 ⟨by omega, by omega⟩
  have hw3 : IntKind.i64.wrap d3 = d3 := IntWalk.i64_in d3 ⟨by omega, by omega⟩
  have i11 : ¬ (n : Int) < 11 := by omega
  have i3 : (3 : Int) < (n : Int) := by omega
  have i4 : (4 : Int) < (n : Int) := by omega
  have i3n : 3 < n := by omega
  have i4n : 4 < n := by omega
  go_enter Try.func58, Try.ntmps58
  go_upto_region 3 with fail
  go_cut [4] (fun s wx => s = .pointer (some ⟨w.heap.size + 1, 0, none⟩) ∧ wx.heap[w.heap.size + 1]? = some (.cells #[.int .i64 d0, .int .i64 (d1 * 256 + d2), .int .i64 0, .bool false, .int .i64 0, .bool false, .int .i64 0] 38 (0, 0)) ∧ Below (w.heap.size + 1) (w.alloc (.cells #[.int .i64 0, .int .i64 0, .int .i64 0, .bool false, .int .i64 0, .bool false, .int .i64 0] 38)) wx ∧ wx.heap.size = w.heap.size + 2)
  case first =>
    have HS : Hid (∀ W', Below (w.heap.size + 1) (w.alloc (.cells #[.int .i64 0, .int .i64 0, .int .i64 0, .bool false, .int .i64 0, .bool false, .int .i64 0] 38)) W' → W'.cell? ⟨b, off, none⟩ = some (.int .u8 d0) ∧ Below (w.heap.size + 1) (w.alloc (.cells #[.int .i64 0, .int .i64 0, .int .i64 0, .bool false, .int .i64 0, .bool false, .int .i64 0] 38)) W') := fun W' hb => ⟨(keep_cell (below_boxS hb) hc0), hb⟩
    refine wp_region_noPanic ?_
    refine wp_region_held_drew (S := fun W' => W'.cell? ⟨b, off, none⟩ = some (.int .u8 d0) ∧ Below (w.heap.size + 1) (w.alloc (.cells #[.int .i64 0, .int .i64 0, .int .i64 0, .bool false, .int .i64 0, .bool false, .int .i64 0] 38)) W') (by kernel_rfl) (HS.out _ (Below.refl _ _).drew) (fun hH => ?_)
    refine hTake (i := 0) (v := ?_) rfl (by kernel_rfl) (by kernel_rfl) (by kernel_rfl) (by rfl) ?_ hH ?_
    rotate_left
    · intro W hW; (try dsimp only at hW); go_simp <;> with_reducible rfl
    simp only [Act.put, List.setIfInBounds_toArray, List.set_cons_zero, List.set_cons_succ]
    refine hTake (i := 1) (v := ?_) rfl (by kernel_rfl) (by kernel_rfl) (by kernel_rfl) (by rfl) ?_ hH ?_
    rotate_left
    · intro W hW; (try dsimp only at hW); go_simp <;> with_reducible rfl
    simp only [Act.put, List.setIfInBounds_toArray, List.set_cons_zero, List.set_cons_succ]
    refine hTake (i := 2) (v := ?_) rfl (by kernel_rfl) (by kernel_rfl) (by kernel_rfl) (by rfl) ?_ hH ?_
    rotate_left
    · intro W hW; (try dsimp only at hW); go_simp <;> with_reducible rfl
    simp only [Act.put, List.setIfInBounds_toArray, List.set_cons_zero, List.set_cons_succ]
    refine hTake (i := 3) (v := ?_) rfl (by kernel_rfl) (by kernel_rfl) (by kernel_rfl) (by rfl) ?_ hH ?_
    rotate_left
    · intro W hW; (try dsimp only at hW); go_simp <;> with_reducible rfl
    simp only [Act.put, List.setIfInBounds_toArray, List.set_cons_zero, List.set_cons_succ]
    refine hTake (i := 4) (v := ?_) rfl (by kernel_rfl) (by kernel_rfl) (by kernel_rfl) (by rfl) ?_ hH ?_
    rotate_left
    · intro W hW; (try dsimp only at hW); go_simp <;> with_reducible rfl
    simp only [Act.put, List.setIfInBounds_toArray, List.set_cons_zero, List.set_cons_succ]
    refine wpAnyH_ready (rs := [5, 7]) (by kernel_rfl) (by simp) ?_
    refine AllReadyH.cons rfl (fun K hK => ?_) (AllReadyH.cons rfl (fun K hK => ?_) AllReadyH.nil)
    focus
      go_simp
      refine (tk1 _ hH.2).mono ?_
      rintro e w1 ⟨rfl, hh1, bq⟩
      have bq := hH.2.trans (bq.mono (by simp))
      go_wp2_with fail
      refine hK.out _ _ ?_ (fun hH => ?_)
      · exact HS.out _ bq
      clear hK K
      refine hTake (i := 6) (v := ?_) rfl (by kernel_rfl) (by kernel_rfl) (by kernel_rfl) (by rfl) ?_ hH ?_
      rotate_left
      · intro W hW; (try dsimp only at hW); go_simp <;> with_reducible rfl
      simp only [Act.put, List.setIfInBounds_toArray, List.set_cons_zero, List.set_cons_succ]
      refine wpAnyH_ready (rs := [7]) (by kernel_rfl) (by simp) ?_
      refine AllReadyH.cons rfl (fun K hK => ?_) AllReadyH.nil
      go_simp
      refine hK.out _ _ ?_ (fun hH => ?_)
      · exact HS.out _ (hH.2.alloc (by first | (simp; done) | (have := hH.2.size; simp at this; omega)) _)
      clear hK K
      have zq := bq.size
      simp at zq
      have hsq : w1.heap.size = w.heap.size + 1 := by rw [hh1]; simp
      refine wpAnyH_ready (rs := [8]) (by kernel_rfl) (by simp) ?_
      refine AllReadyH.cons rfl (fun K hK => ?_) AllReadyH.nil
      go_simp
      refine hK.out _ _ ?_ (fun hH => ?_)
      · exact HS.out _ (bq.alloc zq _)
      clear hK K
      refine wpAnyH_done (by kernel_rfl) ?_ _
      refine NoPanic.normal ?_
      go_wp2_with fail
      go_meet
      exact ⟨rfl, heap_new' hsq.symm, bq.alloc zq _, by simp [hsq]⟩
    rotate_left
    focus
      go_simp
      refine hK.out _ _ ?_ (fun hH => ?_)
      · exact HS.out _ (hH.2.alloc (by first | (simp; done) | (have := hH.2.size; simp at this; omega)) _)
      clear hK K
      refine wpAnyH_ready (rs := [5]) (by kernel_rfl) (by simp) ?_
      refine AllReadyH.cons rfl (fun K hK => ?_) AllReadyH.nil
      go_simp
      refine (tk1 _ hH.2).mono ?_
      rintro e w1 ⟨rfl, hh1, bq⟩
      have bq := hH.2.trans (bq.mono (by simp))
      go_wp2_with fail
      refine hK.out _ _ ?_ (fun hH => ?_)
      · exact HS.out _ bq
      clear hK K
      refine hTake (i := 6) (v := ?_) rfl (by kernel_rfl) (by kernel_rfl) (by kernel_rfl) (by rfl) ?_ hH ?_
      rotate_left
      · intro W hW; (try dsimp only at hW); go_simp <;> with_reducible rfl
      simp only [Act.put, List.setIfInBounds_toArray, List.set_cons_zero, List.set_cons_succ]
      have hR : w1.heap[w.heap.size + 1]? = some (.cells #[.int .i64 0, .int .i64 0, .int .i64 0, .bool false, .int .i64 0, .bool false, .int .i64 0] 38 (0, 0)) := by rw [hh1]; exact heap_new' (by simp)
      have hsq : w1.heap.size = w.heap.size + 2 := by rw [hh1]; simp
      obtain ⟨x0, x1, x2, x3, x4, x5, x6⟩ := row7 hR
      obtain ⟨f0, f1, f2, f3, f4, f5, f6⟩ := frz7 hR
      refine wpAnyH_ready (rs := [8]) (by kernel_rfl) (by simp) ?_
      refine AllReadyH.cons rfl (fun K hK => ?_) AllReadyH.nil
      go_simp
      refine hK.out _ _ ?_ (fun hH => ?_)
      · exact HS.out _ (below_set7 bq (by omega) _ _ _ _ _ _ _)
      clear hK K
      clear x0 x1 x2 x3 x4 x5 x6 f0 f1 f2 f3 f4 f5 f6
      refine wpAnyH_done (by kernel_rfl) ?_ _
      refine NoPanic.normal ?_
      go_wp2_with fail
      go_meet
      exact ⟨rfl, set7_row hR _ _ _ _ _ _ _, below_set7 bq (by omega) _ _ _ _ _ _ _, by simp [hsq]⟩
    rotate_left
  case rest =>
  obtain ⟨rfl, hR, hB, hsz⟩ := hcut
  have x0 := (row7 hR).1
  go_upto_region 9 with (go_at_call 69; refine (l2Sets_any _ _).mono ?_; rintro e w1 ⟨rfl, hw1⟩; subst w1)
  go_cut [] (fun wx => wx.heap[w.heap.size + 1]? = some (.cells #[.int .i64 d0, .int .i64 (d1 * 256 + d2), .int .i64 d3, .bool false, .int .i64 0, .bool false, .int .i64 0] 38 (0, 0)) ∧ Below (w.heap.size + 1) (w.alloc (.cells #[.int .i64 0, .int .i64 0, .int .i64 0, .bool false, .int .i64 0, .bool false, .int .i64 0] 38)) wx ∧ wx.heap.size = w.heap.size + 2)
  case first =>
    have hd3 := hc3.out _ hB
    obtain ⟨x0, x1, x2, x3, x4, x5, x6⟩ := row7 hR
    obtain ⟨f0, f1, f2, f3, f4, f5, f6⟩ := frz7 hR
    go_wp2_with fail
    go_meet
    exact ⟨Joins.block_setCell (i := 2) hR _, hB.setCell (p := ⟨w.heap.size + 1, 2, none⟩) (by simp) _, by simpa using hsz⟩
  case rest =>
  clear hR hB hsz x0
  obtain ⟨hR, hB, hsz⟩ := hcut
  go_upto_region 10 with fail
  go_cut [] (fun wx => wx.heap[w.heap.size + 1]? = some (.cells #[.int .i64 d0, .int .i64 (d1 * 256 + d2), .int .i64 d3, .bool (d4 % 2 == 1), .int .i64 0, .bool false, .int .i64 0] 38 (0, 0)) ∧ Below (w.heap.size + 1) (w.alloc (.cells #[.int .i64 0, .int .i64 0, .int .i64 0, .bool false, .int .i64 0, .bool false, .int .i64 0] 38)) wx ∧ wx.heap.size = w.heap.size + 2)
  case first =>
    have hd4 := hc4.out _ hB
    obtain ⟨x0, x1, x2, x3, x4, x5, x6⟩ := row7 hR
    obtain ⟨f0, f1, f2, f3, f4, f5, f6⟩ := frz7 hR
    go_wp2_with fail
    go_meet
    exact ⟨Joins.block_setCell (i := 3) hR _, hB.setCell (p := ⟨w.heap.size + 1, 3, none⟩) (by simp) _, by simpa using hsz⟩
  case rest =>
  clear hR hB hsz
  obtain ⟨hR, hB, hsz⟩ := hcut
  go_upto_region 11 with fail
  go_cut [] (fun wx => wx.heap[w.heap.size + 1]? = some (.cells #[.int .i64 d0, .int .i64 (d1 * 256 + d2), .int .i64 d3, .bool (d4 % 2 == 1), .int .i64 0, .bool (d4 / 2 % 2 == 1), .int .i64 0] 38 (0, 0)) ∧ Below (w.heap.size + 1) (w.alloc (.cells #[.int .i64 0, .int .i64 0, .int .i64 0, .bool false, .int .i64 0, .bool false, .int .i64 0] 38)) wx ∧ wx.heap.size = w.heap.size + 2)
  case first =>
    have hd4 := hc4.out _ hB
    obtain ⟨x0, x1, x2, x3, x4, x5, x6⟩ := row7 hR
    obtain ⟨f0, f1, f2, f3, f4, f5, f6⟩ := frz7 hR
    go_wp2_with fail
    go_meet
    exact ⟨Joins.block_setCell (i := 5) hR _, hB.setCell (p := ⟨w.heap.size + 1, 5, none⟩) (by simp) _, by simpa using hsz⟩
  case rest =>
  clear hR hB hsz
  obtain ⟨hR, hB, hsz⟩ := hcut
  go_upto_region 12 with fail
  go_cut [] (fun wx => wx.heap[w.heap.size + 1]? = some (.cells #[.int .i64 d0, .int .i64 (d1 * 256 + d2), .int .i64 d3, .bool (d4 % 2 == 1), .int .i64 (d5 * 256 + d6), .bool (d4 / 2 % 2 == 1), .int .i64 0] 38 (0, 0)) ∧ Below (w.heap.size + 1) (w.alloc (.cells #[.int .i64 0, .int .i64 0, .int .i64 0, .bool false, .int .i64 0, .bool false, .int .i64 0] 38)) wx ∧ wx.heap.size = w.heap.size + 2)
  case first =>
    go_wp2_with fail
    refine (tk5 _ hB).mono ?_
    rintro e w1 ⟨rfl, hh1, b1⟩
    have hR1 : w1.heap[w.heap.size + 1]? = _ := (congrArg (fun hp => hp[w.heap.size + 1]?) hh1).trans hR
    have hs1 : w1.heap.size = w.heap.size + 2 := by rw [hh1]; exact hsz
    have hB1 := hB.trans (b1.mono (by omega))
    obtain ⟨x0, x1, x2, x3, x4, x5, x6⟩ := row7 hR1
    obtain ⟨f0, f1, f2, f3, f4, f5, f6⟩ := frz7 hR1
    go_wp2_with fail
    go_meet
    exact ⟨Joins.block_setCell (i := 4) hR1 _, hB1.setCell (p := ⟨w.heap.size + 1, 4, none⟩) (by simp) _, by simpa using hs1⟩
  case rest =>
  clear hR hB hsz
  obtain ⟨hR, hB, hsz⟩ := hcut
  go_upto_region 13 with fail
  go_cut [] (fun wx => wx.heap[w.heap.size + 1]? = some (.cells #[.int .i64 d0, .int .i64 (d1 * 256 + d2), .int .i64 d3, .bool (d4 % 2 == 1), .int .i64 (d5 * 256 + d6), .bool (d4 / 2 % 2 == 1), .int .i64 (d7 * 256 + d8)] 38 (0, 0)) ∧ Below (w.heap.size + 1) (w.alloc (.cells #[.int .i64 0, .int .i64 0, .int .i64 0, .bool false, .int .i64 0, .bool false, .int .i64 0] 38)) wx ∧ wx.heap.size = w.heap.size + 2)
  case first =>
    go_wp2_with fail
    refine (tk7 _ hB).mono ?_
    rintro e w1 ⟨rfl, hh1, b1⟩
    have hR1 : w1.heap[w.heap.size + 1]? = _ := (congrArg (fun hp => hp[w.heap.size + 1]?) hh1).trans hR
    have hs1 : w1.heap.size = w.heap.size + 2 := by rw [hh1]; exact hsz
    have hB1 := hB.trans (b1.mono (by omega))
    obtain ⟨x0, x1, x2, x3, x4, x5, x6⟩ := row7 hR1
    obtain ⟨f0, f1, f2, f3, f4, f5, f6⟩ := frz7 hR1
    go_wp2_with fail
    go_meet
    exact ⟨Joins.block_setCell (i := 6) hR1 _, hB1.setCell (p := ⟨w.heap.size + 1, 6, none⟩) (by simp) _, by simpa using hs1⟩
  case rest =>
  clear hR hB hsz
  obtain ⟨hR, hB, hsz⟩ := hcut
  clear tk1 tk5 tk7 hc0 hc3 hc4
  obtain ⟨x0, x1, x2, x3, x4, x5, x6⟩ := row7 hR
  have j1 : (11 : Int) ≤ (n : Int) := by omega
  have j2 : (11 : Int) ≤ (cap : Int) := by omega
  have j3 : 11 ≤ cap := by omega
  have HLn : Hid (Ch.Rec.len ⟨d0, d1 * 256 + d2, d3, d4 % 2 == 1, d5 * 256 + d6, d4 / 2 % 2 == 1, d7 * 256 + d8⟩ = 11) := by show _ = _; simp [Ch.Rec.len, hset]
  go_upto_region 14 with fail
  by_cases hf : Ch.Rec.fault ⟨d0, d1 * 256 + d2, d3, d4 % 2 == 1, d5 * 256 + d6, d4 / 2 % 2 == 1, d7 * 256 + d8⟩ = 0
  · have HF : Hid (Ch.Rec.fault ⟨d0, d1 * 256 + d2, d3, d4 % 2 == 1, d5 * 256 + d6, d4 / 2 % 2 == 1, d7 * 256 + d8⟩ = 0) := hf
    have fit := Ch.Rec.fit hf
    have E0 := nums_eq (isB_of (Ch.Rec.all_bytes fit)) (isB_take hb 11)
    have HP : Hid (decide (Ch.Rec.bytes ⟨d0, d1 * 256 + d2, d3, d4 % 2 == 1, d5 * 256 + d6, d4 / 2 % 2 == 1, d7 * 256 + d8⟩ = zs.take 11) = decide (Ch.Rec.bytes ⟨d0, d1 * 256 + d2, d3, d4 % 2 == 1, d5 * 256 + d6, d4 / 2 % 2 == 1, d7 * 256 + d8⟩ <+: zs)) := by
      show _ = _
      rw [← prefix_iff, Ch.Rec.bytes_len, HLn.out]
      by_cases e : zs.take 11 = Ch.Rec.bytes ⟨d0, d1 * 256 + d2, d3, d4 % 2 == 1, d5 * 256 + d6, d4 / 2 % 2 == 1, d7 * 256 + d8⟩
      · simp [e]
      · simp [e, Ne.symm e]
    clear hf
    by_cases hp : Ch.Rec.bytes ⟨d0, d1 * 256 + d2, d3, d4 % 2 == 1, d5 * 256 + d6, d4 / 2 % 2 == 1, d7 * 256 + d8⟩ <+: zs
    · rw [HP.out, decide_eq_true hp] at E0
      have HV : Hid (Ch.firstV zs = (⟨d0, d1 * 256 + d2, d3, d4 % 2 == 1, d5 * 256 + d6, d4 / 2 % 2 == 1, d7 * 256 + d8⟩, 11)) := by
        have := Ch.firstV_some (zs := zs) (by rw [HU.out]; exact HF.out) (by rw [HU.out]; exact hp)
        rw [HU.out, HLn.out] at this
        exact this
      clear hp HP
      have HS : Hid (∀ W', Below wc.heap.size wc W' → W'.cell? ⟨w.heap.size + 1, 0, none⟩ = some (.int .i64 (d0)) ∧ W'.cell? ⟨w.heap.size + 1, 1, none⟩ = some (.int .i64 (d1 * 256 + d2)) ∧ W'.cell? ⟨w.heap.size + 1, 2, none⟩ = some (.int .i64 (d3)) ∧ W'.cell? ⟨w.heap.size + 1, 3, none⟩ = some (.bool (d4 % 2 == 1)) ∧ W'.cell? ⟨w.heap.size + 1, 4, none⟩ = some (.int .i64 (d5 * 256 + d6)) ∧ W'.cell? ⟨w.heap.size + 1, 5, none⟩ = some (.bool (d4 / 2 % 2 == 1)) ∧ W'.cell? ⟨w.heap.size + 1, 6, none⟩ = some (.int .i64 (d7 * 256 + d8)) ∧ (convert 22 9 (.slice (some ⟨b, off, none⟩) 11 cap)).run Try.prog W' = .ok (.string (strOfNums (zs.take 11))) W' ∧ Below wc.heap.size wc W') := fun W' hb' => ⟨keep_cell hb' x0, keep_cell hb' x1, keep_cell hb' x2, keep_cell hb' x3, keep_cell hb' x4, keep_cell hb' x5, keep_cell hb' x6, conv_any ((h.take (m := 11) (by omega)).below ((below_boxS hB).trans (hb'.mono (below_boxS hB).size))) cap, hb'⟩
      refine wp_region_noPanic ?_
      refine wp_region_held_drew (S := fun W' => W'.cell? ⟨w.heap.size + 1, 0, none⟩ = some (.int .i64 (d0)) ∧ W'.cell? ⟨w.heap.size + 1, 1, none⟩ = some (.int .i64 (d1 * 256 + d2)) ∧ W'.cell? ⟨w.heap.size + 1, 2, none⟩ = some (.int .i64 (d3)) ∧ W'.cell? ⟨w.heap.size + 1, 3, none⟩ = some (.bool (d4 % 2 == 1)) ∧ W'.cell? ⟨w.heap.size + 1, 4, none⟩ = some (.int .i64 (d5 * 256 + d6)) ∧ W'.cell? ⟨w.heap.size + 1, 5, none⟩ = some (.bool (d4 / 2 % 2 == 1)) ∧ W'.cell? ⟨w.heap.size + 1, 6, none⟩ = some (.int .i64 (d7 * 256 + d8)) ∧ (convert 22 9 (.slice (some ⟨b, off, none⟩) 11 cap)).run Try.prog W' = .ok (.string (strOfNums (zs.take 11))) W' ∧ Below wc.heap.size wc W') (by kernel_rfl) (HS.out _ (Below.refl _ _).drew) (fun hH => ?_)
      refine hTake (i := 0) (v := ?_) rfl (by kernel_rfl) (by kernel_rfl) (by kernel_rfl) (by rfl) ?_ hH ?_
      rotate_left
      · intro W hW; (try dsimp only at hW); go_simp <;> with_reducible rfl
      simp only [Act.put, List.setIfInBounds_toArray, List.set_cons_zero, List.set_cons_succ]
      refine wpAnyH_ready (rs := [1]) (by kernel_rfl) (by simp) ?_
      refine AllReadyH.cons rfl (fun K hK => ?_) AllReadyH.nil
      go_simp
      refine (specRec_any (d0) (d1 * 256 + d2) (d3) (d4 % 2 == 1) (d5 * 256 + d6) (d4 / 2 % 2 == 1) (d7 * 256 + d8) _).mono ?_
      rintro e w1 ⟨rfl, b1⟩
      rw [HF.out]
      have b1 := hH.2.2.2.2.2.2.2.2.trans (b1.mono (by simp))
      go_wp2_with fail
      refine hK.out _ _ ?_ (fun hH => ?_)
      · exact HS.out _ b1
      clear hK K
      refine hTake (i := 2) (v := ?_) rfl (by kernel_rfl) (by kernel_rfl) (by kernel_rfl) (by rfl) ?_ hH ?_
      rotate_left
      · intro W hW; (try dsimp only at hW); go_simp <;> with_reducible rfl
      simp only [Act.put, List.setIfInBounds_toArray, List.set_cons_zero, List.set_cons_succ]
      refine hTake (i := 3) (v := ?_) rfl (by kernel_rfl) (by kernel_rfl) (by kernel_rfl) (by rfl) ?_ hH ?_
      rotate_left
      · intro W hW; (try dsimp only at hW); go_simp <;> with_reducible rfl
      simp only [Act.put, List.setIfInBounds_toArray, List.set_cons_zero, List.set_cons_succ]
      refine hTake (i := 4) (v := ?_) rfl (by kernel_rfl) (by kernel_rfl) (by kernel_rfl) (by rfl) ?_ hH ?_
      rotate_left
      · intro W hW; (try dsimp only at hW); go_simp <;> with_reducible rfl
      simp only [Act.put, List.setIfInBounds_toArray, List.set_cons_zero, List.set_cons_succ]
      refine hTake (i := 7) (v := ?_) rfl (by kernel_rfl) (by kernel_rfl) (by kernel_rfl) (by rfl) ?_ hH ?_
      rotate_left
      · intro W hW; (try dsimp only at hW); go_simp <;> with_reducible rfl
      simp only [Act.put, List.setIfInBounds_toArray, List.set_cons_zero, List.set_cons_succ]
      refine hTake (i := 8) (v := ?_) rfl (by kernel_rfl) (by kernel_rfl) (by kernel_rfl) (by rfl) ?_ hH ?_
      rotate_left
      · intro W hW; (try dsimp only at hW); go_simp <;> with_reducible rfl
      simp only [Act.put, List.setIfInBounds_toArray, List.set_cons_zero, List.set_cons_succ]
      refine hTake (i := 9) (v := ?_) rfl (by kernel_rfl) (by kernel_rfl) (by kernel_rfl) (by rfl) ?_ hH ?_
      rotate_left
      · intro W hW; (try dsimp only at hW); go_simp <;> with_reducible rfl
      simp only [Act.put, List.setIfInBounds_toArray, List.set_cons_zero, List.set_cons_succ]
      refine hTake (i := 10) (v := ?_) rfl (by kernel_rfl) (by kernel_rfl) (by kernel_rfl) (by rfl) ?_ hH ?_
      rotate_left
      · intro W hW; (try dsimp only at hW); go_simp <;> with_reducible rfl
      simp only [Act.put, List.setIfInBounds_toArray, List.set_cons_zero, List.set_cons_succ]
      refine wpAnyH_ready (rs := [5]) (by kernel_rfl) (by simp) ?_
      refine AllReadyH.cons rfl (fun K hK => ?_) AllReadyH.nil
      go_simp
      refine (l2Pack_any (d0) (d1 * 256 + d2) (d3) (d4 % 2 == 1) (d5 * 256 + d6) (d4 / 2 % 2 == 1) (d7 * 256 + d8) _ fit).mono ?_
      rw [HLn.out]
      rintro e w2 ⟨g, cp, rfl, own, b2⟩
      have b2 := hH.2.2.2.2.2.2.2.2.trans (b2.mono b1.size)
      have hcv := conv_any (w := w2) (a := some ⟨g, 0, none⟩) (n := 11) (zs := Ch.Rec.bytes ⟨d0, d1 * 256 + d2, d3, d4 % 2 == 1, d5 * 256 + d6, d4 / 2 % 2 == 1, d7 * 256 + d8⟩) (by simpa using owns_cells own) cp
      go_wp2_with fail
      refine hK.out _ _ ?_ (fun hH => ?_)
      · exact HS.out _ b2
      clear hK K
      refine wpAnyH_ready (rs := [6]) (by kernel_rfl) (by simp) ?_
      refine AllReadyH.cons rfl (fun K hK => ?_) AllReadyH.nil
      go_simp
      refine hK.out _ _ ?_ (fun hH => ?_)
      · exact hH
      clear hK K
      refine hTake (i := 11) (v := ?_) rfl (by kernel_rfl) (by kernel_rfl) (by kernel_rfl) (by rfl) ?_ hH ?_
      rotate_left
      · intro W hW; (try dsimp only at hW); go_simp <;> with_reducible rfl
      simp only [Act.put, List.setIfInBounds_toArray, List.set_cons_zero, List.set_cons_succ]
      refine hTake (i := 12) (v := ?_) rfl (by kernel_rfl) (by kernel_rfl) (by kernel_rfl) (by rfl) ?_ hH ?_
      rotate_left
      · intro W hW; (try dsimp only at hW); go_simp <;> with_reducible rfl
      simp only [Act.put, List.setIfInBounds_toArray, List.set_cons_zero, List.set_cons_succ]
      refine wpAnyH_done (by kernel_rfl) ?_ _
      refine NoPanic.normal ?_
      clear hcv E0 HLn
      have zc := b2.size
      have x0 := keep_cell b2 x0
      have x1 := keep_cell b2 x1
      have x2 := keep_cell b2 x2
      have x3 := keep_cell b2 x3
      have x4 := keep_cell b2 x4
      have x5 := keep_cell b2 x5
      have x6 := keep_cell b2 x6
      have bF := hB.trans (b2.mono (by omega))
      have bF' : Below (w.alloc (.cells #[.int .i64 0, .int .i64 0, .int .i64 0, .bool false, .int .i64 0, .bool false, .int .i64 0] 38)).heap.size (w.alloc (.cells #[.int .i64 0, .int .i64 0, .int .i64 0, .bool false, .int .i64 0, .bool false, .int .i64 0] 38)) w2 := by simpa using bF
      obtain ⟨y0, y1, y2, y3, y4, y5, y6⟩ := box7 bF'
      have g0 := bF.frozen (p := ⟨w.heap.size, 0, none⟩) (by simp)
      have g1 := bF.frozen (p := ⟨w.heap.size, 1, none⟩) (by simp)
      have g2 := bF.frozen (p := ⟨w.heap.size, 2, none⟩) (by simp)
      have g3 := bF.frozen (p := ⟨w.heap.size, 3, none⟩) (by simp)
      have g4 := bF.frozen (p := ⟨w.heap.size, 4, none⟩) (by simp)
      have g5 := bF.frozen (p := ⟨w.heap.size, 5, none⟩) (by simp)
      have g6 := bF.frozen (p := ⟨w.heap.size, 6, none⟩) (by simp)
      simp [go_sem] at g0 g1 g2 g3 g4 g5 g6
      have bE := below_boxS bF
      have zE := lt_of_cell y0
      clear bF bF'
      go_wp2_with fail
      rw [HV.out]
      refine bodyPost_ret (v := .tuple #[.agg #[.int .i64 (d0), .int .i64 (d1 * 256 + d2), .int .i64 (d3), .bool (d4 % 2 == 1), .int .i64 (d5 * 256 + d6), .bool (d4 / 2 % 2 == 1), .int .i64 (d7 * 256 + d8)], .int .i64 11]) (by simp [results, Try.results58, go_sem, zE, y0, y1, y2, y3, y4, y5, y6]) rfl ⟨rfl, ?_⟩
      repeat (first | with_reducible exact bE | with_reducible refine Below.drew ?_ | with_reducible refine Below.alloc ?_ (by first | omega | (simp; done) | (simp; omega)) _ | with_reducible refine Below.setCell ?_ (by simp) _)
    · rw [HP.out, decide_eq_false hp] at E0
      have HV : Hid (Ch.firstV zs = (Ch.Rec.zero, 0)) := Ch.firstV_none (by rw [HU.out]; exact fun hh => hp hh.2)
      clear hp HP
      have HS : Hid (∀ W', Below wc.heap.size wc W' → W'.cell? ⟨w.heap.size + 1, 0, none⟩ = some (.int .i64 (d0)) ∧ W'.cell? ⟨w.heap.size + 1, 1, none⟩ = some (.int .i64 (d1 * 256 + d2)) ∧ W'.cell? ⟨w.heap.size + 1, 2, none⟩ = some (.int .i64 (d3)) ∧ W'.cell? ⟨w.heap.size + 1, 3, none⟩ = some (.bool (d4 % 2 == 1)) ∧ W'.cell? ⟨w.heap.size + 1, 4, none⟩ = some (.int .i64 (d5 * 256 + d6)) ∧ W'.cell? ⟨w.heap.size + 1, 5, none⟩ = some (.bool (d4 / 2 % 2 == 1)) ∧ W'.cell? ⟨w.heap.size + 1, 6, none⟩ = some (.int .i64 (d7 * 256 + d8)) ∧ (convert 22 9 (.slice (some ⟨b, off, none⟩) 11 cap)).run Try.prog W' = .ok (.string (strOfNums (zs.take 11))) W' ∧ Below wc.heap.size wc W') := fun W' hb' => ⟨keep_cell hb' x0, keep_cell hb' x1, keep_cell hb' x2, keep_cell hb' x3, keep_cell hb' x4, keep_cell hb' x5, keep_cell hb' x6, conv_any ((h.take (m := 11) (by omega)).below ((below_boxS hB).trans (hb'.mono (below_boxS hB).size))) cap, hb'⟩
      refine wp_region_noPanic ?_
      refine wp_region_held_drew (S := fun W' => W'.cell? ⟨w.heap.size + 1, 0, none⟩ = some (.int .i64 (d0)) ∧ W'.cell? ⟨w.heap.size + 1, 1, none⟩ = some (.int .i64 (d1 * 256 + d2)) ∧ W'.cell? ⟨w.heap.size + 1, 2, none⟩ = some (.int .i64 (d3)) ∧ W'.cell? ⟨w.heap.size + 1, 3, none⟩ = some (.bool (d4 % 2 == 1)) ∧ W'.cell? ⟨w.heap.size + 1, 4, none⟩ = some (.int .i64 (d5 * 256 + d6)) ∧ W'.cell? ⟨w.heap.size + 1, 5, none⟩ = some (.bool (d4 / 2 % 2 == 1)) ∧ W'.cell? ⟨w.heap.size + 1, 6, none⟩ = some (.int .i64 (d7 * 256 + d8)) ∧ (convert 22 9 (.slice (some ⟨b, off, none⟩) 11 cap)).run Try.prog W' = .ok (.string (strOfNums (zs.take 11))) W' ∧ Below wc.heap.size wc W') (by kernel_rfl) (HS.out _ (Below.refl _ _).drew) (fun hH => ?_)
      refine hTake (i := 0) (v := ?_) rfl (by kernel_rfl) (by kernel_rfl) (by kernel_rfl) (by rfl) ?_ hH ?_
      rotate_left
      · intro W hW; (try dsimp only at hW); go_simp <;> with_reducible rfl
      simp only [Act.put, List.setIfInBounds_toArray, List.set_cons_zero, List.set_cons_succ]
      refine wpAnyH_ready (rs := [1]) (by kernel_rfl) (by simp) ?_
      refine AllReadyH.cons rfl (fun K hK => ?_) AllReadyH.nil
      go_simp
      refine (specRec_any (d0) (d1 * 256 + d2) (d3) (d4 % 2 == 1) (d5 * 256 + d6) (d4 / 2 % 2 == 1) (d7 * 256 + d8) _).mono ?_
      rintro e w1 ⟨rfl, b1⟩
      rw [HF.out]
      have b1 := hH.2.2.2.2.2.2.2.2.trans (b1.mono (by simp))
      go_wp2_with fail
      refine hK.out _ _ ?_ (fun hH => ?_)
      · exact HS.out _ b1
      clear hK K
      refine hTake (i := 2) (v := ?_) rfl (by kernel_rfl) (by kernel_rfl) (by kernel_rfl) (by rfl) ?_ hH ?_
      rotate_left
      · intro W hW; (try dsimp only at hW); go_simp <;> with_reducible rfl
      simp only [Act.put, List.setIfInBounds_toArray, List.set_cons_zero, List.set_cons_succ]
      refine hTake (i := 3) (v := ?_) rfl (by kernel_rfl) (by kernel_rfl) (by kernel_rfl) (by rfl) ?_ hH ?_
      rotate_left
      · intro W hW; (try dsimp only at hW); go_simp <;> with_reducible rfl
      simp only [Act.put, List.setIfInBounds_toArray, List.set_cons_zero, List.set_cons_succ]
      refine hTake (i := 4) (v := ?_) rfl (by kernel_rfl) (by kernel_rfl) (by kernel_rfl) (by rfl) ?_ hH ?_
      rotate_left
      · intro W hW; (try dsimp only at hW); go_simp <;> with_reducible rfl
      simp only [Act.put, List.setIfInBounds_toArray, List.set_cons_zero, List.set_cons_succ]
      refine hTake (i := 7) (v := ?_) rfl (by kernel_rfl) (by kernel_rfl) (by kernel_rfl) (by rfl) ?_ hH ?_
      rotate_left
      · intro W hW; (try dsimp only at hW); go_simp <;> with_reducible rfl
      simp only [Act.put, List.setIfInBounds_toArray, List.set_cons_zero, List.set_cons_succ]
      refine hTake (i := 8) (v := ?_) rfl (by kernel_rfl) (by kernel_rfl) (by kernel_rfl) (by rfl) ?_ hH ?_
      rotate_left
      · intro W hW; (try dsimp only at hW); go_simp <;> with_reducible rfl
      simp only [Act.put, List.setIfInBounds_toArray, List.set_cons_zero, List.set_cons_succ]
      refine hTake (i := 9) (v := ?_) rfl (by kernel_rfl) (by kernel_rfl) (by kernel_rfl) (by rfl) ?_ hH ?_
      rotate_left
      · intro W hW; (try dsimp only at hW); go_simp <;> with_reducible rfl
      simp only [Act.put, List.setIfInBounds_toArray, List.set_cons_zero, List.set_cons_succ]
      refine hTake (i := 10) (v := ?_) rfl (by kernel_rfl) (by kernel_rfl) (by kernel_rfl) (by rfl) ?_ hH ?_
      rotate_left
      · intro W hW; (try dsimp only at hW); go_simp <;> with_reducible rfl
      simp only [Act.put, List.setIfInBounds_toArray, List.set_cons_zero, List.set_cons_succ]
      refine wpAnyH_ready (rs := [5]) (by kernel_rfl) (by simp) ?_
      refine AllReadyH.cons rfl (fun K hK => ?_) AllReadyH.nil
      go_simp
      refine (l2Pack_any (d0) (d1 * 256 + d2) (d3) (d4 % 2 == 1) (d5 * 256 + d6) (d4 / 2 % 2 == 1) (d7 * 256 + d8) _ fit).mono ?_
      rw [HLn.out]
      rintro e w2 ⟨g, cp, rfl, own, b2⟩
      have b2 := hH.2.2.2.2.2.2.2.2.trans (b2.mono b1.size)
      have hcv := conv_any (w := w2) (a := some ⟨g, 0, none⟩) (n := 11) (zs := Ch.Rec.bytes ⟨d0, d1 * 256 + d2, d3, d4 % 2 == 1, d5 * 256 + d6, d4 / 2 % 2 == 1, d7 * 256 + d8⟩) (by simpa using owns_cells own) cp
      go_wp2_with fail
      refine hK.out _ _ ?_ (fun hH => ?_)
      · exact HS.out _ b2
      clear hK K
      refine wpAnyH_ready (rs := [6]) (by kernel_rfl) (by simp) ?_
      refine AllReadyH.cons rfl (fun K hK => ?_) AllReadyH.nil
      go_simp
      refine hK.out _ _ ?_ (fun hH => ?_)
      · exact hH
      clear hK K
      refine hTake (i := 11) (v := ?_) rfl (by kernel_rfl) (by kernel_rfl) (by kernel_rfl) (by rfl) ?_ hH ?_
      rotate_left
      · intro W hW; (try dsimp only at hW); go_simp <;> with_reducible rfl
      simp only [Act.put, List.setIfInBounds_toArray, List.set_cons_zero, List.set_cons_succ]
      refine hTake (i := 12) (v := ?_) rfl (by kernel_rfl) (by kernel_rfl) (by kernel_rfl) (by rfl) ?_ hH ?_
      rotate_left
      · intro W hW; (try dsimp only at hW); go_simp <;> with_reducible rfl
      simp only [Act.put, List.setIfInBounds_toArray, List.set_cons_zero, List.set_cons_succ]
      refine wpAnyH_done (by kernel_rfl) ?_ _
      refine NoPanic.normal ?_
      clear hcv E0 HLn
      have zc := b2.size
      have x0 := keep_cell b2 x0
      have x1 := keep_cell b2 x1
      have x2 := keep_cell b2 x2
      have x3 := keep_cell b2 x3
      have x4 := keep_cell b2 x4
      have x5 := keep_cell b2 x5
      have x6 := keep_cell b2 x6
      have bF := hB.trans (b2.mono (by omega))
      have bF' : Below (w.alloc (.cells #[.int .i64 0, .int .i64 0, .int .i64 0, .bool false, .int .i64 0, .bool false, .int .i64 0] 38)).heap.size (w.alloc (.cells #[.int .i64 0, .int .i64 0, .int .i64 0, .bool false, .int .i64 0, .bool false, .int .i64 0] 38)) w2 := by simpa using bF
      obtain ⟨y0, y1, y2, y3, y4, y5, y6⟩ := box7 bF'
      have g0 := bF.frozen (p := ⟨w.heap.size, 0, none⟩) (by simp)
      have g1 := bF.frozen (p := ⟨w.heap.size, 1, none⟩) (by simp)
      have g2 := bF.frozen (p := ⟨w.heap.size, 2, none⟩) (by simp)
      have g3 := bF.frozen (p := ⟨w.heap.size, 3, none⟩) (by simp)
      have g4 := bF.frozen (p := ⟨w.heap.size, 4, none⟩) (by simp)
      have g5 := bF.frozen (p := ⟨w.heap.size, 5, none⟩) (by simp)
      have g6 := bF.frozen (p := ⟨w.heap.size, 6, none⟩) (by simp)
      simp [go_sem] at g0 g1 g2 g3 g4 g5 g6
      have bE := below_boxS bF
      have zE := lt_of_cell y0
      clear bF bF'
      go_wp2_with fail
      rw [HV.out]
      refine bodyPost_ret (v := .tuple #[.agg #[.int .i64 0, .int .i64 0, .int .i64 0, .bool false, .int .i64 0, .bool false, .int .i64 0], .int .i64 0]) (by simp [results, Try.results58, go_sem, zE, y0, y1, y2, y3, y4, y5, y6]) rfl ⟨rfl, ?_⟩
      repeat (first | with_reducible exact bE | with_reducible refine Below.drew ?_ | with_reducible refine Below.alloc ?_ (by first | omega | (simp; done) | (simp; omega)) _ | with_reducible refine Below.setCell ?_ (by simp) _)
  · have HV : Hid (Ch.firstV zs = (Ch.Rec.zero, 0)) := Ch.firstV_none (by rw [HU.out]; exact fun hh => hf hh.1)
    obtain ⟨fc, hfc⟩ : ∃ fc, fc = Ch.Rec.fault ⟨d0, d1 * 256 + d2, d3, d4 % 2 == 1, d5 * 256 + d6, d4 / 2 % 2 == 1, d7 * 256 + d8⟩ := ⟨_, rfl⟩
    rw [← hfc] at hf
    have HF : Hid (Ch.Rec.fault ⟨d0, d1 * 256 + d2, d3, d4 % 2 == 1, d5 * 256 + d6, d4 / 2 % 2 == 1, d7 * 256 + d8⟩ = fc) := hfc.symm
    have hc : (fc != 0) = true := by simpa using hf
    clear hfc hf
    have HS : Hid (∀ W', Below wc.heap.size wc W' → W'.cell? ⟨w.heap.size + 1, 0, none⟩ = some (.int .i64 (d0)) ∧ W'.cell? ⟨w.heap.size + 1, 1, none⟩ = some (.int .i64 (d1 * 256 + d2)) ∧ W'.cell? ⟨w.heap.size + 1, 2, none⟩ = some (.int .i64 (d3)) ∧ W'.cell? ⟨w.heap.size + 1, 3, none⟩ = some (.bool (d4 % 2 == 1)) ∧ W'.cell? ⟨w.heap.size + 1, 4, none⟩ = some (.int .i64 (d5 * 256 + d6)) ∧ W'.cell? ⟨w.heap.size + 1, 5, none⟩ = some (.bool (d4 / 2 % 2 == 1)) ∧ W'.cell? ⟨w.heap.size + 1, 6, none⟩ = some (.int .i64 (d7 * 256 + d8)) ∧ (convert 22 9 (.slice (some ⟨b, off, none⟩) 11 cap)).run Try.prog W' = .ok (.string (strOfNums (zs.take 11))) W' ∧ Below wc.heap.size wc W') := fun W' hb' => ⟨keep_cell hb' x0, keep_cell hb' x1, keep_cell hb' x2, keep_cell hb' x3, keep_cell hb' x4, keep_cell hb' x5, keep_cell hb' x6, conv_any ((h.take (m := 11) (by omega)).below ((below_boxS hB).trans (hb'.mono (below_boxS hB).size))) cap, hb'⟩
    refine wp_region_noPanic ?_
    refine wp_region_held_drew (S := fun W' => W'.cell? ⟨w.heap.size + 1, 0, none⟩ = some (.int .i64 (d0)) ∧ W'.cell? ⟨w.heap.size + 1, 1, none⟩ = some (.int .i64 (d1 * 256 + d2)) ∧ W'.cell? ⟨w.heap.size + 1, 2, none⟩ = some (.int .i64 (d3)) ∧ W'.cell? ⟨w.heap.size + 1, 3, none⟩ = some (.bool (d4 % 2 == 1)) ∧ W'.cell? ⟨w.heap.size + 1, 4, none⟩ = some (.int .i64 (d5 * 256 + d6)) ∧ W'.cell? ⟨w.heap.size + 1, 5, none⟩ = some (.bool (d4 / 2 % 2 == 1)) ∧ W'.cell? ⟨w.heap.size + 1, 6, none⟩ = some (.int .i64 (d7 * 256 + d8)) ∧ (convert 22 9 (.slice (some ⟨b, off, none⟩) 11 cap)).run Try.prog W' = .ok (.string (strOfNums (zs.take 11))) W' ∧ Below wc.heap.size wc W') (by kernel_rfl) (HS.out _ (Below.refl _ _).drew) (fun hH => ?_)
    refine hTake (i := 0) (v := ?_) rfl (by kernel_rfl) (by kernel_rfl) (by kernel_rfl) (by rfl) ?_ hH ?_
    rotate_left
    · intro W hW; (try dsimp only at hW); go_simp <;> with_reducible rfl
    simp only [Act.put, List.setIfInBounds_toArray, List.set_cons_zero, List.set_cons_succ]
    refine wpAnyH_ready (rs := [1]) (by kernel_rfl) (by simp) ?_
    refine AllReadyH.cons rfl (fun K hK => ?_) AllReadyH.nil
    go_simp
    refine (specRec_any (d0) (d1 * 256 + d2) (d3) (d4 % 2 == 1) (d5 * 256 + d6) (d4 / 2 % 2 == 1) (d7 * 256 + d8) _).mono ?_
    rintro e w1 ⟨rfl, b1⟩
    rw [HF.out]
    have b1 := hH.2.2.2.2.2.2.2.2.trans (b1.mono (by simp))
    go_wp2_with fail
    refine hK.out _ _ ?_ (fun hH => ?_)
    · exact HS.out _ b1
    clear hK K
    refine hTake (i := 2) (v := ?_) rfl (by kernel_rfl) (by kernel_rfl) (by kernel_rfl) (by rfl) ?_ hH ?_
    rotate_left
    · intro W hW; (try dsimp only at hW); go_simp <;> with_reducible rfl
    simp only [Act.put, List.setIfInBounds_toArray, List.set_cons_zero, List.set_cons_succ]
    refine hTake (i := 3) (v := ?_) rfl (by kernel_rfl) (by kernel_rfl) (by kernel_rfl) (by rfl) ?_ hH ?_
    rotate_left
    · intro W hW; (try dsimp only at hW); go_simp <;> with_reducible rfl
    simp only [Act.put, List.setIfInBounds_toArray, List.set_cons_zero, List.set_cons_succ]
    refine hSkip (i := 4) rfl (by kernel_rfl) (by kernel_rfl) (by kernel_rfl) (by rfl) hH ?_
    simp only [Act.put, List.setIfInBounds_toArray, List.set_cons_zero, List.set_cons_succ]
    refine hSkip (i := 5) rfl (by kernel_rfl) (by kernel_rfl) (by kernel_rfl) (by rfl) hH ?_
    simp only [Act.put, List.setIfInBounds_toArray, List.set_cons_zero, List.set_cons_succ]
    refine hSkip (i := 6) rfl (by kernel_rfl) (by kernel_rfl) (by kernel_rfl) (by rfl) hH ?_
    simp only [Act.put, List.setIfInBounds_toArray, List.set_cons_zero, List.set_cons_succ]
    refine hSkip (i := 7) rfl (by kernel_rfl) (by kernel_rfl) (by kernel_rfl) (by rfl) hH ?_
    simp only [Act.put, List.setIfInBounds_toArray, List.set_cons_zero, List.set_cons_succ]
    refine hSkip (i := 8) rfl (by kernel_rfl) (by kernel_rfl) (by kernel_rfl) (by rfl) hH ?_
    simp only [Act.put, List.setIfInBounds_toArray, List.set_cons_zero, List.set_cons_succ]
    refine hSkip (i := 9) rfl (by kernel_rfl) (by kernel_rfl) (by kernel_rfl) (by rfl) hH ?_
    simp only [Act.put, List.setIfInBounds_toArray, List.set_cons_zero, List.set_cons_succ]
    refine hSkip (i := 10) rfl (by kernel_rfl) (by kernel_rfl) (by kernel_rfl) (by rfl) hH ?_
    simp only [Act.put, List.setIfInBounds_toArray, List.set_cons_zero, List.set_cons_succ]
    refine hSkip (i := 11) rfl (by kernel_rfl) (by kernel_rfl) (by kernel_rfl) (by rfl) hH ?_
    simp only [Act.put, List.setIfInBounds_toArray, List.set_cons_zero, List.set_cons_succ]
    refine hTake (i := 12) (v := ?_) rfl (by kernel_rfl) (by kernel_rfl) (by kernel_rfl) (by rfl) ?_ hH ?_
    rotate_left
    · intro W hW; (try dsimp only at hW); go_simp <;> with_reducible rfl
    simp only [Act.put, List.setIfInBounds_toArray, List.set_cons_zero, List.set_cons_succ]
    refine wpAnyH_done (by kernel_rfl) ?_ _
    refine NoPanic.normal ?_
    clear HLn
    have zc := b1.size
    have bF := hB.trans (b1.mono (by omega))
    have bF' : Below (w.alloc (.cells #[.int .i64 0, .int .i64 0, .int .i64 0, .bool false, .int .i64 0, .bool false, .int .i64 0] 38)).heap.size (w.alloc (.cells #[.int .i64 0, .int .i64 0, .int .i64 0, .bool false, .int .i64 0, .bool false, .int .i64 0] 38)) w1 := by simpa using bF
    obtain ⟨y0, y1, y2, y3, y4, y5, y6⟩ := box7 bF'
    have g0 := bF.frozen (p := ⟨w.heap.size, 0, none⟩) (by simp)
    have g1 := bF.frozen (p := ⟨w.heap.size, 1, none⟩) (by simp)
    have g2 := bF.frozen (p := ⟨w.heap.size, 2, none⟩) (by simp)
    have g3 := bF.frozen (p := ⟨w.heap.size, 3, none⟩) (by simp)
    have g4 := bF.frozen (p := ⟨w.heap.size, 4, none⟩) (by simp)
    have g5 := bF.frozen (p := ⟨w.heap.size, 5, none⟩) (by simp)
    have g6 := bF.frozen (p := ⟨w.heap.size, 6, none⟩) (by simp)
    simp [go_sem] at g0 g1 g2 g3 g4 g5 g6
    have bE := below_boxS bF
    have zE := lt_of_cell y0
    clear bF bF'
    go_wp2_with fail
    rw [HV.out]
    refine bodyPost_ret (v := .tuple #[.agg #[.int .i64 0, .int .i64 0, .int .i64 0, .bool false, .int .i64 0, .bool false, .int .i64 0], .int .i64 0]) (by simp [results, Try.results58, go_sem, zE, y0, y1, y2, y3, y4, y5, y6]) rfl ⟨rfl, ?_⟩
    repeat (first | with_reducible exact bE | with_reducible refine Below.drew ?_ | with_reducible refine Below.alloc ?_ (by first | omega | (simp; done) | (simp; omega)) _ | with_reducible refine Below.setCell ?_ (by simp) _)

theorem l2One_any (a : Option Addr) (n cap : Nat) (zs : List Int) (w : World) (h : CellsAt w a n (bts zs)) (hb : IsB zs) (hn : n ≤ 1048576) (hcap : n ≤ cap) :
    Calls Try.prog 58 #[.slice a n cap] w fun e w' => e = .returned (.tuple #[recV (Ch.firstV zs).1, .int .i64 (Ch.firstV zs).2]) ∧ Below w.heap.size w w' := by
  by_cases h5 : n < 5
  · exact l2One_short a n cap zs w h h5
  obtain ⟨b, off, rfl, _⟩ := h.2 (by omega)
  cases hset : Ch.sets (zs.getD 0 0)
  · exact l2One_plain b off n cap zs w h hb hn hcap (by omega) hset
  by_cases h11 : n < 11
  · exact l2One_few b off n cap zs w h hb hn hcap (by omega) h11 hset
  · exact l2One_full b off n cap zs w h hb hn hcap (by omega) hset
end Go.Proofs.Ytommekhmdmnjlaa
