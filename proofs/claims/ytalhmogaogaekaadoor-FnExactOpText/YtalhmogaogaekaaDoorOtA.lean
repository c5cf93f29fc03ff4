/- Numbers in decimal, operations as texts: plain; l16Digits, l16Line, l16Fields of the model. -/
import Derived.Test.YtalhmogaogaekaaDoorStrA
import Derived.Test.YtalhmogaogaekaaDoorOpF
import Derived.Lib.ItoaMem
import Derived.Lib.Bytes
import Derived.Deep.RegionWith
namespace Go.Proofs.YtalhmogaogaekaaDoor
open Go.RowKit

def Ch.dec (n : Nat) : ByteArray := Ch.mkB (Lib.decDigits n)
theorem mkB_app (a b : List UInt8) : Ch.mkB a ++ Ch.mkB b = Ch.mkB (a ++ b) := by
  apply ByteArray.ext
  simp [Ch.mkB, ByteArray.data_append]
theorem digit_mkB (d : Nat) (h : d ≤ 9) : strOfNums [48 + (d : Int)] = Ch.mkB [UInt8.ofNat (48 + d)] := by
  have h1 : (strOfNums [48 + (d : Int)]).data.toList = [UInt8.ofNat (48 + d)] := by
    rw [← Lib.toList_data, Lib.strOfNums_toList]
    simp only [Lib.bytesOf, List.map_cons, List.map_nil]
    rw [show (48 + (d : Int)).toNat = 48 + d by omega]
  have : (strOfNums [48 + (d : Int)]).data = [UInt8.ofNat (48 + d)].toArray := Array.toList_inj.1 (by rw [h1])
  exact congrArg ByteArray.mk this
theorem Ch.dec_small {n : Nat} (h : n < 10) : Ch.dec n = strOfNums [48 + (n : Int)] := by
  unfold Ch.dec
  rw [Lib.decDigits_one h, digit_mkB n (by omega)]
theorem Ch.dec_big {n : Nat} (h : ¬ n < 10) : Ch.dec n = Ch.dec (n / 10) ++ strOfNums [48 + ((n % 10 : Nat) : Int)] := by
  unfold Ch.dec
  rw [Lib.decDigits, dif_neg h, digit_mkB (n % 10) (by omega), mkB_app]
theorem Ch.dec_size : ∀ (k n : Nat), n < 10 ^ (k + 1) → (Ch.dec n).size ≤ k + 1
  | 0, n, h => by rw [Ch.dec_small (by omega), strOfNums_size]; simp
  | k + 1, n, h => by
    by_cases hn : n < 10
    · rw [Ch.dec_small hn, strOfNums_size]; simp
    · rw [Ch.dec_big hn, ByteArray.size_append, strOfNums_size]
      have := Ch.dec_size k (n / 10) (by rw [Nat.pow_succ] at h; omega)
      simp
      omega

theorem Tryd.convB {W : World} {z : Int} : (convert 58 9 (.slice (some ⟨W.heap.size, 0, none⟩) 1 1)).run Tryd.prog (W.alloc (.cells #[.int .u8 z] 5)) = .ok (.string (strOfNums [z])) (W.alloc (.cells #[.int .u8 z] 5)) := by
  refine run_convert_bytes_arg _ 58 5 Tryd.underlying58 Tryd.underlying5 W.heap.size 0 1 1 [z] rfl (fun i hi => ?_) 9 Tryd.underlying9
  obtain rfl : i = 0 := by omega
  simp [go_sem]

set_option maxHeartbeats 800000 in
theorem digits_small (n : Nat) (w : World) (h : n < 10) :
    Calls Tryd.prog 33 #[.int .i64 n] w fun e w' => e = .returned (.string (Ch.dec n)) ∧ Below w.heap.size w w' := by
  rw [Ch.dec_small h]
  have cv := fun z => Tryd.convB (W := w) (z := z)
  have h1 : (n : Int) < 10 := by omega
  go_enter Tryd.func33, Tryd.ntmps33
  go_wp2
  go_ret
  exact ⟨rfl, (Below.refl _ _).alloc (Nat.le_refl _) _⟩

theorem convB_at {V W : World} {g : Nat} {z : Int} (h : V.cell? ⟨g, 0, none⟩ = some (.int .u8 z)) (hb : Below V.heap.size V W) : (convert 58 9 (.slice (some ⟨g, 0, none⟩) 1 1)).run Tryd.prog W = .ok (.string (strOfNums [z])) W := by
  refine run_convert_bytes_arg _ 58 5 Tryd.underlying58 Tryd.underlying5 g 0 1 1 [z] rfl (fun i hi => ?_) 9 Tryd.underlying9
  obtain rfl : i = 0 := by omega
  exact keep_cell hb h

set_option maxHeartbeats 4000000 in
theorem digits_step (n q d : Nat) (A : ByteArray) (w : World) (hn : 10 ≤ n) (hN : n ≤ 9999) (hq : n / 10 = q) (hd : n % 10 = d) (hA : A.size ≤ 4)
    (IH : ∀ W, Calls Tryd.prog 33 #[.int .i64 q] W fun e w' => e = .returned (.string A) ∧ Below W.heap.size W w') :
    Calls Tryd.prog 33 #[.int .i64 n] w fun e w' => e = .returned (.string (A ++ strOfNums [48 + (d : Int)])) ∧ Below w.heap.size w w' := by
  have h1 : ¬ (n : Int) < 10 := by omega
  have hd9 : d ≤ 9 := by omega
  have hqb : q ≤ 999 := by omega
  have e1 : Int.tmod (n : Int) 10 = (d : Int) := by rw [Int.tmod_eq_emod_of_nonneg (by omega)]; omega
  have e2 : Int.tdiv (n : Int) 10 = (q : Int) := by rw [Int.tdiv_eq_ediv_of_nonneg (by omega)]; omega
  have hz1 : (strOfNums [48 + (d : Int)]).size = 1 := by rw [strOfNums_size]; rfl
  have hz : ¬ 9223372036854775807 < A.size + (strOfNums [48 + (d : Int)]).size := by omega
  have k1 : IntKind.i64.wrap (q : Int) = q := IntWalk.i64_in _ ⟨by omega, by omega⟩
  have k2 : IntKind.i64.wrap (48 + (d : Int)) = 48 + (d : Int) := IntWalk.i64_in _ ⟨by omega, by omega⟩
  have k3 : IntKind.u8.wrap (48 + (d : Int)) = 48 + (d : Int) := IntWalk.u8_in _ ⟨by omega, by omega⟩
  clear hz1 hA hn hN hq hd
  have cv := fun (W : World) (z : Int) => Tryd.convB (W := W) (z := z)
  go_enter Tryd.func33, Tryd.ntmps33
  go_wp2
  refine wp_region_noPanic ?_
  refine wp_region_held_drew (S := fun W' => Below w.heap.size w W') (by kernel_rfl) ((Below.refl _ _).trans ⟨rfl, rfl, rfl, Nat.le_refl _, fun _ _ => rfl⟩) (fun hH => ?_)
  refine hTake (i := 0) (v := ?_) rfl (by kernel_rfl) (by kernel_rfl) (by kernel_rfl) (by rfl) ?_ hH ?_
  rotate_left
  · intro W hW; (try dsimp only at hW); go_simp <;> with_reducible rfl
  simp only [Act.put, List.setIfInBounds_toArray, List.set_cons_zero, List.set_cons_succ]
  refine hTake (i := 1) (v := ?_) rfl (by kernel_rfl) (by kernel_rfl) (by kernel_rfl) (by rfl) ?_ hH ?_
  rotate_left
  · intro W hW; (try dsimp only at hW); go_simp <;> with_reducible rfl
  simp only [Act.put, List.setIfInBounds_toArray, List.set_cons_zero, List.set_cons_succ]
  refine hTake (i := 3) (v := ?_) rfl (by kernel_rfl) (by kernel_rfl) (by kernel_rfl) (by rfl) ?_ hH ?_
  rotate_left
  · intro W hW; (try dsimp only at hW); go_simp <;> with_reducible rfl
  simp only [Act.put, List.setIfInBounds_toArray, List.set_cons_zero, List.set_cons_succ]
  refine hTake (i := 4) (v := ?_) rfl (by kernel_rfl) (by kernel_rfl) (by kernel_rfl) (by rfl) ?_ hH ?_
  rotate_left
  · intro W hW; (try dsimp only at hW); go_simp <;> with_reducible rfl
  simp only [Act.put, List.setIfInBounds_toArray, List.set_cons_zero, List.set_cons_succ]
  refine hTake (i := 5) (v := ?_) rfl (by kernel_rfl) (by kernel_rfl) (by kernel_rfl) (by rfl) ?_ hH ?_
  rotate_left
  · intro W hW; (try dsimp only at hW); go_simp <;> with_reducible rfl
  simp only [Act.put, List.setIfInBounds_toArray, List.set_cons_zero, List.set_cons_succ]
  refine hTake (i := 6) (v := ?_) rfl (by kernel_rfl) (by kernel_rfl) (by kernel_rfl) (by rfl) ?_ hH ?_
  rotate_left
  · intro W hW; (try dsimp only at hW); go_simp <;> with_reducible rfl
  simp only [Act.put, List.setIfInBounds_toArray, List.set_cons_zero, List.set_cons_succ]
  refine wpAnyH_ready (rs := [2, 7]) (by kernel_rfl) (by simp) ?_
  refine AllReadyH.cons rfl (fun K hK => ?_) (AllReadyH.cons rfl (fun K hK => ?_) AllReadyH.nil)
  focus
    go_simp
    refine (IH _).mono ?_
    rintro e w2 ⟨rfl, b2⟩
    go_wp2_with fail
    refine hK.out _ _ ?_ (fun hH => ?_)
    · exact hH.trans (b2.mono hH.size)
    clear hK K
    refine wpAnyH_ready (rs := [7]) (by kernel_rfl) (by simp) ?_
    refine AllReadyH.cons rfl (fun K hK => ?_) AllReadyH.nil
    go_simp
    refine hK.out _ _ ?_ (fun hH => ?_)
    · exact hH.alloc hH.size _
    clear hK K
    refine wpAnyH_ready (rs := [8]) (by kernel_rfl) (by simp) ?_
    refine AllReadyH.cons rfl (fun K hK => ?_) AllReadyH.nil
    have cx := cv w2 (48 + (d : Int))
    go_simp
    refine hK.out _ _ ?_ (fun hH => ?_)
    · exact hH
    clear hK K
    refine hTake (i := 9) (v := ?_) rfl (by kernel_rfl) (by kernel_rfl) (by kernel_rfl) (by rfl) ?_ hH ?_
    rotate_left
    · intro W hW; (try dsimp only at hW); go_simp <;> with_reducible rfl
    simp only [Act.put, List.setIfInBounds_toArray, List.set_cons_zero, List.set_cons_succ]
    refine hTake (i := 10) (v := ?_) rfl (by kernel_rfl) (by kernel_rfl) (by kernel_rfl) (by rfl) ?_ hH ?_
    rotate_left
    · intro W hW; (try dsimp only at hW); go_simp <;> with_reducible rfl
    simp only [Act.put, List.setIfInBounds_toArray, List.set_cons_zero, List.set_cons_succ]
    refine wpAnyH_done (by kernel_rfl) ?_ _
    refine NoPanic.normal ?_
    go_wp2
    go_ret
    exact ⟨rfl, hH⟩
  focus
    generalize hW : w.drew = V at *
    have cx := cv V (48 + (d : Int))
    have hc : (V.alloc (.cells #[.int .u8 (48 + (d : Int))] 5)).cell? ⟨V.heap.size, 0, none⟩ = some (.int .u8 (48 + (d : Int))) := by simp [go_sem]
    have cy := fun W hb => convB_at (W := W) hc hb
    go_simp
    refine hK.out _ _ ?_ (fun hH => ?_)
    · exact hH.alloc hH.size _
    clear hK K
    refine wpAnyH_ready (rs := [2, 8]) (by kernel_rfl) (by simp) ?_
    refine AllReadyH.cons rfl (fun K hK => ?_) (AllReadyH.cons rfl (fun K hK => ?_) AllReadyH.nil)
    focus
      go_simp
      refine (IH _).mono ?_
      rintro e w2 ⟨rfl, b2⟩
      have cz := cy w2 b2
      go_wp2_with fail
      refine hK.out _ _ ?_ (fun hH => ?_)
      · exact hH.trans (b2.mono hH.size)
      clear hK K
      refine wpAnyH_ready (rs := [8]) (by kernel_rfl) (by simp) ?_
      refine AllReadyH.cons rfl (fun K hK => ?_) AllReadyH.nil
      go_simp
      refine hK.out _ _ ?_ (fun hH => ?_)
      · exact hH
      clear hK K
      refine hTake (i := 9) (v := ?_) rfl (by kernel_rfl) (by kernel_rfl) (by kernel_rfl) (by rfl) ?_ hH ?_
      rotate_left
      · intro W hW; (try dsimp only at hW); go_simp <;> with_reducible rfl
      simp only [Act.put, List.setIfInBounds_toArray, List.set_cons_zero, List.set_cons_succ]
      refine hTake (i := 10) (v := ?_) rfl (by kernel_rfl) (by kernel_rfl) (by kernel_rfl) (by rfl) ?_ hH ?_
      rotate_left
      · intro W hW; (try dsimp only at hW); go_simp <;> with_reducible rfl
      simp only [Act.put, List.setIfInBounds_toArray, List.set_cons_zero, List.set_cons_succ]
      refine wpAnyH_done (by kernel_rfl) ?_ _
      refine NoPanic.normal ?_
      go_wp2
      go_ret
      exact ⟨rfl, hH⟩
    focus
      go_simp
      refine hK.out _ _ ?_ (fun hH => ?_)
      · exact hH
      clear hK K
      refine wpAnyH_ready (rs := [2]) (by kernel_rfl) (by simp) ?_
      refine AllReadyH.cons rfl (fun K hK => ?_) AllReadyH.nil
      go_simp
      refine (IH _).mono ?_
      rintro e w2 ⟨rfl, b2⟩
      go_wp2_with fail
      refine hK.out _ _ ?_ (fun hH => ?_)
      · exact hH.trans (b2.mono hH.size)
      clear hK K
      refine hTake (i := 9) (v := ?_) rfl (by kernel_rfl) (by kernel_rfl) (by kernel_rfl) (by rfl) ?_ hH ?_
      rotate_left
      · intro W hW; (try dsimp only at hW); go_simp <;> with_reducible rfl
      simp only [Act.put, List.setIfInBounds_toArray, List.set_cons_zero, List.set_cons_succ]
      refine hTake (i := 10) (v := ?_) rfl (by kernel_rfl) (by kernel_rfl) (by kernel_rfl) (by rfl) ?_ hH ?_
      rotate_left
      · intro W hW; (try dsimp only at hW); go_simp <;> with_reducible rfl
      simp only [Act.put, List.setIfInBounds_toArray, List.set_cons_zero, List.set_cons_succ]
      refine wpAnyH_done (by kernel_rfl) ?_ _
      refine NoPanic.normal ?_
      go_wp2
      go_ret
      exact ⟨rfl, hH⟩
end Go.Proofs.YtalhmogaogaekaaDoor
