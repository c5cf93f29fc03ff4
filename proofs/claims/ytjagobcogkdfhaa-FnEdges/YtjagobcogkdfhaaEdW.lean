
/- compareEdges. -/
import Derived.Test.YtjagobcogkdfhaaEdS
import Derived.Test.YtjagobcogkdfhaaSetZ
namespace Go.Proofs.Ytjagobcogkdfhaa
open Go.RowKit Go.Maps Go.Sort

instance : Inhabited Ch.Hold := ⟨Ch.Hold.zero⟩
def cfI (x y : Int) : Int := if x < y then -1 else if y < x then 1 else 0
def cfE (x y : Ch.Hold) : Int := if cfI x.t y.t != 0 then cfI x.t y.t else cfI x.m y.m

set_option maxHeartbeats 1000000 in
theorem nanI_any (x : Int) (W : World) : Calls Try.prog 229 #[.int .i64 x] W fun e w' => e = .returned (.bool false) ∧ w' = W := by
  go_enter Try.func229, Try.ntmps229
  go_wp2
  go_ret
  exact ⟨by simp, rfl⟩
set_option maxHeartbeats 1000000 in
theorem cmpI_any (x y : Int) (W : World) : Calls Try.prog 189 #[.int .i64 x, .int .i64 y] W fun e w' => e = .returned (.int .i64 (cfI x y)) ∧ w' = W := by
  have IN := fun a W => nanI_any a W
  unfold cfI
  by_cases h1 : x < y
  · rw [if_pos h1]
    go_enter Try.func189, Try.ntmps189
    go_wp2_with (go_at_call 229; refine (IN _ _).mono ?_; rintro e w' ⟨rfl, rfl⟩)
    go_ret
    exact ⟨rfl, rfl⟩
  · rw [if_neg h1]
    by_cases h2 : y < x
    · rw [if_pos h2]
      go_enter Try.func189, Try.ntmps189
      go_wp2_with (go_at_call 229; refine (IN _ _).mono ?_; rintro e w' ⟨rfl, rfl⟩)
      go_ret
      exact ⟨rfl, rfl⟩
    · rw [if_neg h2]
      go_enter Try.func189, Try.ntmps189
      go_wp2_with (go_at_call 229; refine (IN _ _).mono ?_; rintro e w' ⟨rfl, rfl⟩)
      go_ret
      exact ⟨rfl, rfl⟩
set_option maxHeartbeats 1000000 in
theorem orI_any (blk : Nat) (a b : Int) (W : World) (h0 : W.cell? ⟨blk, 0, none⟩ = some (.int .i64 a)) (h1 : W.cell? ⟨blk, 1, none⟩ = some (.int .i64 b)) :
    Calls Try.prog 188 #[.slice (some ⟨blk, 0, none⟩) 2 2] W fun e w' => e = .returned (.int .i64 (if a != 0 then a else b)) ∧ w' = W := by
  have h : CellsAt W (some ⟨blk, 0, none⟩) (2 * 1) (icells [a, b]) := by
    refine ⟨rfl, fun _ => ⟨blk, 0, rfl, fun k hk => ?_⟩⟩
    have : k = 0 ∨ k = 1 := by omega
    rcases this with rfl | rfl
    · exact h0
    · exact h1
  clear h0 h1
  have HV : ∀ k, k < 2 → Hid ((([a, b].getD k 0 != 0) = true → (0 < k → a = 0) → [a, b].getD k 0 = if a != 0 then a else b) ∧ (([a, b].getD k 0 != 0) = false → (0 < k → a = 0) → (0 < k + 1 → a = 0))) := by
    intro k hk
    have : k = 0 ∨ k = 1 := by omega
    rcases this with rfl | rfl
    · refine ⟨fun e _ => ?_, fun e _ _ => ?_⟩
      · simp only [List.getD_cons_zero] at *; rw [if_pos e]
      · simpa using e
    · refine ⟨fun e z => ?_, fun e z _ => z (by omega)⟩
      have := z (by omega)
      subst this
      simp
  have HW : ([a, b].getD 1 0 != 0) = false → (0 < 1 → a = 0) → 0 = if a != 0 then a else b := by
    intro e z
    have := z (by omega)
    subst this
    have e3 : b = 0 := by simpa using e
    simp [e3]
  generalize (if a != 0 then a else b) = r at *
  go_enter Try.func188, Try.ntmps188
  go_wp2
  go_loopw [8] (fun i wr => ∃ k : Nat, k ≤ 2 ∧ i = .int .i64 k ∧ wr = W ∧ Hid ((0 < k → a = 0) ∧ (2 ≤ k → (0 : Int) = r))) (fun i _ => 2 - (intOf i).toNat)
  case atStart => exact ⟨0, by omega, rfl, rfl, hid ⟨fun h => by omega, fun h => by omega⟩⟩
  case round =>
    obtain ⟨k, hk, rfl, rfl, hz⟩ := hrel
    by_cases hlt : k < 2
    · obtain ⟨b', o', e, hc⟩ := h.int hlt
      cases e
      rw [Nat.zero_add] at hc
      have hbl := lt_of_cell hc
      replace HV := HV k hlt
      have HW2 : Hid (k + 1 = 2 → ([a, b].getD k 0 != 0) = false → 0 = r) := hid fun ek ec => by
        obtain rfl : k = 1 := by omega
        exact HW ec hz.out.1
      clear HW
      generalize [a, b].getD k 0 = c at *
      by_cases hc0 : c = 0
      · have e1 : (c != 0) = false := by simpa using hc0
        have HR : Hid ((0 < k + 1 → a = 0) ∧ (2 ≤ k + 1 → (0 : Int) = r)) := hid ⟨HV.out.2 e1 hz.out.1, fun h => HW2.out (by omega) e1⟩
        clear hc0 HV HW2 hz h
        go_wp2
        go_roundw
        case rel => exact ⟨k + 1, by omega, by go_num, trivial, HR⟩
        case measure => simp [intOf]; omega
      · have e1 : (c != 0) = true := by simpa using hc0
        have HR : Hid (c = r) := hid (HV.out.1 e1 hz.out.1)
        clear hc0 HV HW2 hz h
        go_wp2
        go_ret
        rw [← HR.out]
        exact ⟨rfl, rfl⟩
    · obtain rfl : k = 2 := by omega
      have HR : Hid ((0 : Int) = r) := hid (hz.out.2 (by omega))
      clear hz h HV HW
      go_wp2
      go_ret
      rw [← HR.out]
      exact ⟨rfl, rfl⟩

theorem drew_row2 (A : World) (v0 v1 : Value) (t : TypeId) (n : Nat) (hn : A.heap.size = n) : (A.alloc (.cells #[v0, v1] t)).drew.cell? ⟨n, 0, none⟩ = some v0 ∧ (A.alloc (.cells #[v0, v1] t)).drew.cell? ⟨n, 1, none⟩ = some v1 := by
  subst hn
  obtain ⟨s0, s1, _, _⟩ := row2 (heap_alloc_new A (.cells #[v0, v1] t))
  exact ⟨s0, s1⟩
theorem drew_below (A : World) (o : Obj) : Below A.drew.heap.size A.drew (A.alloc o).drew := by
  have := (Below.refl A.heap.size A).alloc (Nat.le_refl _) o
  exact ⟨this.1, this.2, this.3, this.4, this.5⟩
set_option maxRecDepth 20000 in
set_option maxHeartbeats 1000000 in
theorem cmpE_any (x y : Ch.Hold) (W : World) : Calls Try.prog 155 #[.agg #[.int .i64 x.t, .int .i64 x.m], .agg #[.int .i64 y.t, .int .i64 y.m]] W fun e w' => e = .returned (.int .i64 (cfE x y)) ∧ ∃ q os', w' = grow (W.drewN q) os' := by
  obtain ⟨x0, x1⟩ := x
  obtain ⟨y0, y1⟩ := y
  have I0 := fun W => cmpI_any x0 y0 W
  have I1 := fun W => cmpI_any x1 y1 W
  unfold cfE
  simp only
  generalize cfI x0 y0 = c0 at *
  generalize cfI x1 y1 = c1 at *
  have IO := fun blk W h0 h1 => orI_any blk c0 c1 W h0 h1
  generalize (if c0 != 0 then c0 else c1) = r at *
  have k1 := (Below.refl (W.alloc (.cells #[.int .i64 x0, .int .i64 x1] 46)).heap.size (W.alloc (.cells #[.int .i64 x0, .int .i64 x1] 46))).alloc (Nat.le_refl _) (.cells #[.int .i64 y0, .int .i64 y1] 46)
  obtain ⟨a0, a1, _, _⟩ := row2 (heap_alloc_new W (.cells #[.int .i64 x0, .int .i64 x1] 46))
  replace a0 := keep_cell k1 a0
  replace a1 := keep_cell k1 a1
  obtain ⟨b0, b1, _, _⟩ := row2 (heap_alloc_new (W.alloc (.cells #[.int .i64 x0, .int .i64 x1] 46)) (.cells #[.int .i64 y0, .int .i64 y1] 46))
  have sz : (W.alloc (.cells #[.int .i64 x0, .int .i64 x1] 46)).heap.size = W.heap.size + 1 := by simp
  rw [sz] at b0 b1
  clear sz k1
  have kQ := drew_below ((W.alloc (.cells #[.int .i64 x0, .int .i64 x1] 46)).alloc (.cells #[.int .i64 y0, .int .i64 y1] 46)) (.cells #[.int .i64 c0, .int .i64 c1] 3)
  go_enter Try.func155, Try.ntmps155
  go_wp2_with fail
  refine wp_region_noPanic ?_
  refine wp_region_held_drew (S := fun W' => W'.cell? ⟨W.heap.size, 0, none⟩ = some (.int .i64 x0) ∧ W'.cell? ⟨W.heap.size, 1, none⟩ = some (.int .i64 x1) ∧ W'.cell? ⟨W.heap.size + 1, 0, none⟩ = some (.int .i64 y0) ∧ W'.cell? ⟨W.heap.size + 1, 1, none⟩ = some (.int .i64 y1)) (by kernel_rfl) (⟨a0, a1, b0, b1⟩) (fun hH => ?_)
  refine hTake (i := 0) (v := ?_) rfl (by kernel_rfl) (by kernel_rfl) (by kernel_rfl) (by rfl) ?_ hH ?_
  rotate_left
  · intro W hW; (try dsimp only at hW); go_simp <;> with_reducible rfl
  simp only [Act.put, List.setIfInBounds_toArray, List.set_cons_zero, List.set_cons_succ]
  refine hTake (i := 1) (v := ?_) rfl (by kernel_rfl) (by kernel_rfl) (by kernel_rfl) (by rfl) ?_ hH ?_
  rotate_left
  · intro W hW; (try dsimp only at hW); go_simp <;> with_reducible rfl
  simp only [Act.put, List.setIfInBounds_toArray, List.set_cons_zero, List.set_cons_succ]
  refine hTake (i := 2) (v := ?_) rfl (by kernel_rfl) (by kernel_rfl) (by kernel_rfl) (by rfl) ?_ hH ?_
  rotate_left
  · intro W hW; (try dsimp only at hW); go_simp <;> with_reducible rfl
  simp only [Act.put, List.setIfInBounds_toArray, List.set_cons_zero, List.set_cons_succ]
  refine hTake (i := 3) (v := ?_) rfl (by kernel_rfl) (by kernel_rfl) (by kernel_rfl) (by rfl) ?_ hH ?_
  rotate_left
  · intro W hW; (try dsimp only at hW); go_simp <;> with_reducible rfl
  simp only [Act.put, List.setIfInBounds_toArray, List.set_cons_zero, List.set_cons_succ]
  refine hTake (i := 5) (v := ?_) rfl (by kernel_rfl) (by kernel_rfl) (by kernel_rfl) (by rfl) ?_ hH ?_
  rotate_left
  · intro W hW; (try dsimp only at hW); go_simp <;> with_reducible rfl
  simp only [Act.put, List.setIfInBounds_toArray, List.set_cons_zero, List.set_cons_succ]
  refine hTake (i := 6) (v := ?_) rfl (by kernel_rfl) (by kernel_rfl) (by kernel_rfl) (by rfl) ?_ hH ?_
  rotate_left
  · intro W hW; (try dsimp only at hW); go_simp <;> with_reducible rfl
  simp only [Act.put, List.setIfInBounds_toArray, List.set_cons_zero, List.set_cons_succ]
  refine hTake (i := 7) (v := ?_) rfl (by kernel_rfl) (by kernel_rfl) (by kernel_rfl) (by rfl) ?_ hH ?_
  rotate_left
  · intro W hW; (try dsimp only at hW); go_simp <;> with_reducible rfl
  simp only [Act.put, List.setIfInBounds_toArray, List.set_cons_zero, List.set_cons_succ]
  refine hTake (i := 8) (v := ?_) rfl (by kernel_rfl) (by kernel_rfl) (by kernel_rfl) (by rfl) ?_ hH ?_
  rotate_left
  · intro W hW; (try dsimp only at hW); go_simp <;> with_reducible rfl
  simp only [Act.put, List.setIfInBounds_toArray, List.set_cons_zero, List.set_cons_succ]
  refine wpAnyH_ready (rs := [4]) (by kernel_rfl) (by simp) ?_
  refine AllReadyH.cons rfl (fun K hK => ?_) AllReadyH.nil
  go_simp
  refine (I0 _).mono ?_
  rintro e w' ⟨rfl, rfl⟩
  refine hK.out _ _ ?_ (fun hH => ?_)
  · exact hH
  clear hK K
  refine wpAnyH_ready (rs := [9]) (by kernel_rfl) (by simp) ?_
  refine AllReadyH.cons rfl (fun K hK => ?_) AllReadyH.nil
  go_simp
  refine (I1 _).mono ?_
  rintro e w' ⟨rfl, rfl⟩
  refine hK.out _ _ ?_ (fun hH => ?_)
  · exact hH
  clear hK K
  refine wpAnyH_ready (rs := [10]) (by kernel_rfl) (by simp) ?_
  refine AllReadyH.cons rfl (fun K hK => ?_) AllReadyH.nil
  go_simp
  refine hK.out _ _ ?_ (fun hH => ?_)
  · exact ⟨keep_cell kQ hH.1, keep_cell kQ hH.2.1, keep_cell kQ hH.2.2.1, keep_cell kQ hH.2.2.2⟩
  clear hK K
  refine wpAnyH_ready (rs := [11]) (by kernel_rfl) (by simp) ?_
  refine AllReadyH.cons rfl (fun K hK => ?_) AllReadyH.nil
  obtain ⟨s0, s1⟩ := drew_row2 ((W.alloc (.cells #[.int .i64 x0, .int .i64 x1] 46)).alloc (.cells #[.int .i64 y0, .int .i64 y1] 46)) (.int .i64 c0) (.int .i64 c1) 3 (W.heap.size + 2) (by simp)
  go_simp
  refine (IO _ _ s0 s1).mono ?_
  rintro e w' ⟨rfl, rfl⟩
  refine hK.out _ _ ?_ (fun hH => ?_)
  · exact hH
  clear hK K
  refine hTake (i := 12) (v := ?_) rfl (by kernel_rfl) (by kernel_rfl) (by kernel_rfl) (by rfl) ?_ hH ?_
  rotate_left
  · intro W hW; (try dsimp only at hW); go_simp <;> with_reducible rfl
  simp only [Act.put, List.setIfInBounds_toArray, List.set_cons_zero, List.set_cons_succ]
  refine wpAnyH_done (by kernel_rfl) ?_ _
  refine NoPanic.normal ?_
  go_wp2
  go_ret
  refine ⟨rfl, 1, #[.cells #[.int .i64 x0, .int .i64 x1] 46] ++ #[.cells #[.int .i64 y0, .int .i64 y1] 46] ++ #[.cells #[.int .i64 c0, .int .i64 c1] 3], ?_⟩
  simp only [alloc_eq_grow, drew_grow, grow_grow]
  rfl
def encE (x : Ch.Hold) : List Value := [.int .i64 x.t, .int .i64 x.m]
theorem cmpLaysE (blk off size : Nat) (w : World) : CmpLays Try.prog 155 #[] encE 2 cfE blk off size w :=
  fun _ _ _ _ x y => cmpE_any x y _
theorem ltE_of (x y : Ch.Hold) : ltOf cfE x y = Ch.ltE x y := by
  unfold ltOf cfE cfI Ch.ltE
  by_cases h1 : x.t < y.t
  · simp [h1]
  · by_cases h2 : y.t < x.t
    · have h3 : ¬ x.t = y.t := by omega
      simp [h1, h2, h3]
    · have h3 : x.t = y.t := by omega
      by_cases h4 : x.m < y.m
      · simp [h3, h4]
      · by_cases h5 : y.m < x.m <;> simp [h3, h4, h5]
theorem swoE : SWO (ltOf cfE) where
  irrefl x := by rw [ltE_of]; exact Ch.ltE_irrefl x
  trans x y z h1 h2 := by rw [ltE_of] at *; exact Ch.ltE_trans h1 h2
  ntrans x y z h1 h2 := by
    rw [ltE_of] at *
    rw [Bool.eq_false_iff, ne_eq, Ch.ltE_iff] at *
    omega
end Go.Proofs.Ytjagobcogkdfhaa
