
/- Walks of the record that bytes would be: the program's. -/
import Derived.Test.YtommekhmdmnjlaaPackL
namespace Go.Proofs.Ytommekhmdmnjlaa
open Go.RowKit

theorem and_one (z : Int) (h0 : 0 ≤ z) (h1 : z ≤ 255) : (bits .and .u8 z 1 != 0) = (z % 2 == 1) := by
  rw [u8_and z 1 h0 (by omega) (by omega) (by omega)]
  obtain ⟨n, rfl⟩ := Int.eq_ofNat_of_zero_le h0
  have : n &&& 1 = n % 2 := Nat.and_one_is_mod n
  simp only [Int.toNat_natCast]
  have e : ((1 : Int).toNat) = 1 := rfl
  rw [e, this]
  rcases Nat.mod_two_eq_zero_or_one n with h | h
  · have h2 : ((n : Int) % 2) = 0 := by omega
    simp [h, h2]
  · have h2 : ((n : Int) % 2) = 1 := by omega
    simp [h, h2]
theorem and_two (z : Int) (h0 : 0 ≤ z) (h1 : z ≤ 255) : (bits .and .u8 z 2 != 0) = (z / 2 % 2 == 1) := by
  rw [u8_and z 2 h0 (by omega) (by omega) (by omega)]
  obtain ⟨n, rfl⟩ := Int.eq_ofNat_of_zero_le h0
  have hn : n < 256 := by omega
  have e : ((2 : Int).toNat) = 2 := rfl
  simp only [Int.toNat_natCast]
  rw [e]
  have key : ∀ n : Fin 256, (((n.val &&& 2 : Nat) : Int) != 0) = ((n.val : Int) / 2 % 2 == 1) := by decide +kernel
  exact key ⟨n, hn⟩

/-- A record as a value. -/
def recV (r : Ch.Rec) : Value := .agg #[.int .i64 r.kd, .int .i64 r.tx, .int .i64 r.ky, .bool r.hd, .int .i64 r.ol, .bool r.hs, .int .i64 r.nw]

set_option linter.unusedSimpArgs false in
set_option maxHeartbeats 2000000 in
theorem unpack_any (b0 b1 b2 b3 b4 b5 b6 b7 b8 : Int) (w : World) (p0 : 0 ≤ b0) (q0 : b0 ≤ 255) (p1 : 0 ≤ b1) (q1 : b1 ≤ 255) (p2 : 0 ≤ b2) (q2 : b2 ≤ 255) (p3 : 0 ≤ b3) (q3 : b3 ≤ 255) (p4 : 0 ≤ b4) (q4 : b4 ≤ 255) (p5 : 0 ≤ b5) (q5 : b5 ≤ 255) (p6 : 0 ≤ b6) (q6 : b6 ≤ 255) (p7 : 0 ≤ b7) (q7 : b7 ≤ 255) (p8 : 0 ≤ b8) (q8 : b8 ≤ 255) :
    Calls Try.prog 73 #[.agg #[.int .u8 b0, .int .u8 b1, .int .u8 b2, .int .u8 b3, .int .u8 b4, .int .u8 b5, .int .u8 b6, .int .u8 b7, .int .u8 b8]] w fun e w' => e = .returned (recV (Ch.unp [b0, b1, b2, b3, b4, b5, b6, b7, b8])) ∧ Below w.heap.size w w' := by
  have n1 := and_one b4 p4 q4
  have n2 := and_two b4 p4 q4
  have hw0 : IntKind.i64.wrap b0 = b0 := IntWalk.i64_in b0 ⟨by omega, by omega⟩
  have hw3 : IntKind.i64.wrap b3 = b3 := IntWalk.i64_in b3 ⟨by omega, by omega⟩
  go_enter Try.func73, Try.ntmps73
  go_upto_region 1 with fail
  go_cut [3] (fun s wx => s = .pointer (some ⟨w.heap.size + 2, 0, none⟩) ∧ wx = (((w.alloc (.cells #[.int .u8 b0, .int .u8 b1, .int .u8 b2, .int .u8 b3, .int .u8 b4, .int .u8 b5, .int .u8 b6, .int .u8 b7, .int .u8 b8] 100)).alloc (.cells #[.int .i64 0, .int .i64 0, .int .i64 0, .bool false, .int .i64 0, .bool false, .int .i64 0] 38)).alloc (recO b0 (b1 * 256 + b2) 0 false 0 false 0)).drew)
  case first =>
    have HS : Hid (∀ W', Below (w.heap.size + 2) ((w.alloc (.cells #[.int .u8 b0, .int .u8 b1, .int .u8 b2, .int .u8 b3, .int .u8 b4, .int .u8 b5, .int .u8 b6, .int .u8 b7, .int .u8 b8] 100)).alloc (.cells #[.int .i64 0, .int .i64 0, .int .i64 0, .bool false, .int .i64 0, .bool false, .int .i64 0] 38)) W' → W'.cell? ⟨w.heap.size, 0, none⟩ = some (.int .u8 b0) ∧ W'.cell? ⟨w.heap.size, 1, none⟩ = some (.int .u8 b1) ∧ W'.cell? ⟨w.heap.size, 2, none⟩ = some (.int .u8 b2) ∧ Below (w.heap.size + 2) ((w.alloc (.cells #[.int .u8 b0, .int .u8 b1, .int .u8 b2, .int .u8 b3, .int .u8 b4, .int .u8 b5, .int .u8 b6, .int .u8 b7, .int .u8 b8] 100)).alloc (.cells #[.int .i64 0, .int .i64 0, .int .i64 0, .bool false, .int .i64 0, .bool false, .int .i64 0] 38)) W') := fun W' hb => ⟨by simpa using box_at (below_boxT hb) 0, by simpa using box_at (below_boxT hb) 1, by simpa using box_at (below_boxT hb) 2, hb⟩
    refine wp_region_noPanic ?_
    refine wp_region_held_drew (S := fun W' => W'.cell? ⟨w.heap.size, 0, none⟩ = some (.int .u8 b0) ∧ W'.cell? ⟨w.heap.size, 1, none⟩ = some (.int .u8 b1) ∧ W'.cell? ⟨w.heap.size, 2, none⟩ = some (.int .u8 b2) ∧ Below (w.heap.size + 2) ((w.alloc (.cells #[.int .u8 b0, .int .u8 b1, .int .u8 b2, .int .u8 b3, .int .u8 b4, .int .u8 b5, .int .u8 b6, .int .u8 b7, .int .u8 b8] 100)).alloc (.cells #[.int .i64 0, .int .i64 0, .int .i64 0, .bool false, .int .i64 0, .bool false, .int .i64 0] 38)) W') (by kernel_rfl) (HS.out _ (Below.refl _ _).drew) (fun hH => ?_)
    refine hTake (i := 0) (v := ?_) rfl (by kernel_rfl) (by kernel_rfl) (by kernel_rfl) (by rfl) ?_ hH ?_
    rotate_left
    · intro W hW; (try dsimp only at hW); go_simp <;> with_reducible rfl
    simp only [Act.put, List.setIfInBounds_toArray, List.set_cons_zero, List.set_cons_succ]
    refine hTake (i := 1) (v := ?_) rfl (by kernel_rfl) (by kernel_rfl) (by kernel_rfl) (by rfl) ?_ hH ?_
    rotate_left
    · intro W hW; (try dsimp only at hW); go_simp <;> with_reducible rfl
    simp only [Act.put, List.setIfInBounds_toArray, List.set_cons_zero, List.set_cons_succ]
    refine hTake (i := 2) (v := ?_) rfl (by kernel_rfl) (by kernel_rfl) (by kernel_rfl) (by rfl) ?_ hH ?_
    rotate_left
    · intro W hW; (try dsimp only at hW); go_simp <;> with_reducible rfl
    simp only [Act.put, List.setIfInBounds_toArray, List.set_cons_zero, List.set_cons_succ]
    refine hTake (i := 3) (v := ?_) rfl (by kernel_rfl) (by kernel_rfl) (by kernel_rfl) (by rfl) ?_ hH ?_
    rotate_left
    · intro W hW; (try dsimp only at hW); go_simp <;> with_reducible rfl
    simp only [Act.put, List.setIfInBounds_toArray, List.set_cons_zero, List.set_cons_succ]
    refine hTake (i := 4) (v := ?_) rfl (by kernel_rfl) (by kernel_rfl) (by kernel_rfl) (by rfl) ?_ hH ?_
    rotate_left
    · intro W hW; (try dsimp only at hW); go_simp <;> with_reducible rfl
    simp only [Act.put, List.setIfInBounds_toArray, List.set_cons_zero, List.set_cons_succ]
    refine hTake (i := 5) (v := ?_) rfl (by kernel_rfl) (by kernel_rfl) (by kernel_rfl) (by rfl) ?_ hH ?_
    rotate_left
    · intro W hW; (try dsimp only at hW); go_simp <;> with_reducible rfl
    simp only [Act.put, List.setIfInBounds_toArray, List.set_cons_zero, List.set_cons_succ]
    refine hTake (i := 6) (v := ?_) rfl (by kernel_rfl) (by kernel_rfl) (by kernel_rfl) (by rfl) ?_ hH ?_
    rotate_left
    · intro W hW; (try dsimp only at hW); go_simp <;> with_reducible rfl
    simp only [Act.put, List.setIfInBounds_toArray, List.set_cons_zero, List.set_cons_succ]
    refine wpAnyH_ready (rs := [7, 9]) (by kernel_rfl) (by simp) ?_
    refine AllReadyH.cons rfl (fun K hK => ?_) (AllReadyH.cons rfl (fun K hK => ?_) AllReadyH.nil)
    focus
      go_simp
      refine (join_any _ _ _ p1 q1 p2 q2).mono ?_
      rintro e w1 ⟨rfl, hw1⟩
      subst w1
      go_wp2_with fail
      refine hK.out _ _ ?_ (fun hH => ?_)
      · exact hH
      clear hK K
      refine hTake (i := 8) (v := ?_) rfl (by kernel_rfl) (by kernel_rfl) (by kernel_rfl) (by rfl) ?_ hH ?_
      rotate_left
      · intro W hW; (try dsimp only at hW); go_simp <;> with_reducible rfl
      simp only [Act.put, List.setIfInBounds_toArray, List.set_cons_zero, List.set_cons_succ]
      refine wpAnyH_ready (rs := [9]) (by kernel_rfl) (by simp) ?_
      refine AllReadyH.cons rfl (fun K hK => ?_) AllReadyH.nil
      go_simp
      refine hK.out _ _ ?_ (fun hH => ?_)
      · exact HS.out _ (hH.2.2.2.alloc (by simp) _)
      clear hK K
      refine wpAnyH_ready (rs := [10]) (by kernel_rfl) (by simp) ?_
      refine AllReadyH.cons rfl (fun K hK => ?_) AllReadyH.nil
      go_simp
      refine hK.out _ _ ?_ (fun hH => ?_)
      · exact HS.out _ (((Below.refl _ _).drew.alloc (by simp) _))
      clear hK K
      refine wpAnyH_done (by kernel_rfl) ?_ _
      refine NoPanic.normal ?_
    rotate_left
    focus
      go_simp
      refine hK.out _ _ ?_ (fun hH => ?_)
      · exact HS.out _ (hH.2.2.2.alloc (by simp) _)
      clear hK K
      refine wpAnyH_ready (rs := [7]) (by kernel_rfl) (by simp) ?_
      refine AllReadyH.cons rfl (fun K hK => ?_) AllReadyH.nil
      go_simp
      refine (join_any _ _ _ p1 q1 p2 q2).mono ?_
      rintro e w1 ⟨rfl, hw1⟩
      subst w1
      go_wp2_with fail
      refine hK.out _ _ ?_ (fun hH => ?_)
      · exact hH
      clear hK K
      refine hTake (i := 8) (v := ?_) rfl (by kernel_rfl) (by kernel_rfl) (by kernel_rfl) (by rfl) ?_ hH ?_
      rotate_left
      · intro W hW; (try dsimp only at hW); go_simp <;> with_reducible rfl
      simp only [Act.put, List.setIfInBounds_toArray, List.set_cons_zero, List.set_cons_succ]
      refine wpAnyH_ready (rs := [10]) (by kernel_rfl) (by simp) ?_
      refine AllReadyH.cons rfl (fun K hK => ?_) AllReadyH.nil
      go_simp
      refine hK.out _ _ ?_ (fun hH => ?_)
      · exact HS.out _ (((Below.refl _ _).drew.alloc (by simp) _))
      clear hK K
      refine wpAnyH_done (by kernel_rfl) ?_ _
      refine NoPanic.normal ?_
    rotate_left
    all_goals
      go_wp2_with fail
      go_meet
      exact ⟨rfl, rfl⟩
  case rest =>
  obtain ⟨rfl, rfl⟩ := hcut
  cases hset : Ch.sets b0
  · go_wp2_with (go_at_call 64; refine (tells_any _ _).mono ?_; rintro e w1 ⟨rfl, hw1⟩; subst w1)
    refine bodyPost_ret (v := .agg #[.int .i64 b0, .int .i64 (b1 * 256 + b2), .int .i64 0, .bool false, .int .i64 0, .bool false, .int .i64 0]) (by simp [results, Try.results73, go_sem]) rfl ⟨?_, ?_⟩
    · simp [recV, Ch.unp, hset]
    · repeat (first | exact Below.refl _ _ | refine Below.drew ?_ | refine Below.alloc ?_ (by first | omega | (simp; done) | (simp; omega)) _)
  · go_wp2_with (first | (go_at_call 64; refine (tells_any _ _).mono ?_; rintro e w1 ⟨rfl, hw1⟩; subst w1) | (go_at_call 81; refine (join_any _ _ _ (by assumption) (by assumption) (by assumption) (by assumption)).mono ?_; rintro e w1 ⟨rfl, hw1⟩; subst w1))
    refine bodyPost_ret (v := .agg #[.int .i64 b0, .int .i64 (b1 * 256 + b2), .int .i64 b3, .bool (b4 % 2 == 1), .int .i64 (b5 * 256 + b6), .bool (b4 / 2 % 2 == 1), .int .i64 (b7 * 256 + b8)]) (by simp [results, Try.results73, go_sem]) rfl ⟨?_, ?_⟩
    · simp [recV, Ch.unp, hset]
    · repeat (first | exact Below.refl _ _ | refine Below.drew ?_ | refine Below.alloc ?_ (by first | omega | (simp; done) | (simp; omega)) _)
end Go.Proofs.Ytommekhmdmnjlaa
