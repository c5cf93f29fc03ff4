/- Several texts in one: Cmp, PrS, PrW, IxF, PrX, PrN. -/
import Derived.Test.YthfanfnbjldddaaGreatHd
import Derived.Test.YthfanfnbjldddaaGreatMz4
import Derived.Test.YthfanfnbjldddaaGreatMz2
import Derived.Sort.OwnSorted
import Derived.Shelf.SlSortCmp.WholeK
import Derived.Test.YthfanfnbjldddaaGreatBase
import Derived.Test.YthfanfnbjldddaaGreatProg
import Derived.Shelf.SlLaysF0
import Derived.Shelf.Lay
import Derived.Ground.SlsfProg
import Derived.Test.YthfanfnbjldddaaGreatMz3
import Derived.Test.YthfanfnbjldddaaGreatLvB
import Derived.Test.YthfanfnbjldddaaGreatLvF


/- Two numbers each, compared by the first, then by the second. -/
namespace Go.Proofs.YthfanfnbjldddaaGreat
open Go.RowKit Go.Maps Go.Sort

instance : Inhabited Ch.Hold := ⟨Ch.Hold.zero⟩
def cfI (x y : Int) : Int := if x < y then -1 else if y < x then 1 else 0
def cfE (x y : Ch.Hold) : Int := if cfI x.t y.t != 0 then cfI x.t y.t else cfI x.m y.m

set_option maxHeartbeats 1000000 in
theorem nanI_any (x : Int) (W : World) : Calls Tryz.prog 72 #[.int .i64 x] W fun e w' => e = .returned (.bool false) ∧ w' = W := by
  go_enter Tryz.func72, Tryz.ntmps72
  go_wp2
  go_ret
  exact ⟨by simp, rfl⟩
set_option maxHeartbeats 1000000 in
theorem cmpI_any (x y : Int) (W : World) : Calls Tryz.prog 44 #[.int .i64 x, .int .i64 y] W fun e w' => e = .returned (.int .i64 (cfI x y)) ∧ w' = W := by
  have IN := fun a W => nanI_any a W
  unfold cfI
  by_cases h1 : x < y
  · rw [if_pos h1]
    go_enter Tryz.func44, Tryz.ntmps44
    go_wp2_with (go_at_call 72; refine (IN _ _).mono ?_; rintro e w' ⟨rfl, rfl⟩)
    go_ret
    exact ⟨rfl, rfl⟩
  · rw [if_neg h1]
    by_cases h2 : y < x
    · rw [if_pos h2]
      go_enter Tryz.func44, Tryz.ntmps44
      go_wp2_with (go_at_call 72; refine (IN _ _).mono ?_; rintro e w' ⟨rfl, rfl⟩)
      go_ret
      exact ⟨rfl, rfl⟩
    · rw [if_neg h2]
      go_enter Tryz.func44, Tryz.ntmps44
      go_wp2_with (go_at_call 72; refine (IN _ _).mono ?_; rintro e w' ⟨rfl, rfl⟩)
      go_ret
      exact ⟨rfl, rfl⟩
set_option maxHeartbeats 1000000 in
theorem orI_any (blk : Nat) (a b : Int) (W : World) (h0 : W.cell? ⟨blk, 0, none⟩ = some (.int .i64 a)) (h1 : W.cell? ⟨blk, 1, none⟩ = some (.int .i64 b)) :
    Calls Tryz.prog 43 #[.slice (some ⟨blk, 0, none⟩) 2 2] W fun e w' => e = .returned (.int .i64 (if a != 0 then a else b)) ∧ w' = W := by
  have h : CellsAt W (some ⟨blk, 0, none⟩) (2 * 1) (icells [a, b]) := by
    refine ⟨rfl, fun _ => ⟨blk, 0, rfl, fun k hk => ?_⟩⟩
    have : k = 0 ∨ k = 1 := by omega
    rcases this with rfl | rfl
    · exact h0
    · exact h1
  clear h0 h1
  have HV : ∀ k, k < 2 → Hid ((([a, b].getD k 0 != 0) = true → (0 < k → a = 0) → [a, b].getD k 0 = if a != 0 then a else b) ∧ (([a, b].getD k 0 != 0) = false → (0 < k → a = 0) → (0 < k + 1 → a = 0))) := by
    intro k hk
    have : k = 0 ∨ k = 1 := by omega
    rcases this with rfl | rfl
    · refine ⟨fun e _ => ?_, fun e _ _ => ?_⟩
      · simp only [List.getD_cons_zero] at *; rw [if_pos e]
      · simpa using e
    · refine ⟨fun e z => ?_, fun e z _ => z (by omega)⟩
      have := z (by omega)
      subst this
      simp
  have HW : ([a, b].getD 1 0 != 0) = false → (0 < 1 → a = 0) → 0 = if a != 0 then a else b := by
    intro e z
    have := z (by omega)
    subst this
    have e3 : b = 0 := by simpa using e
    simp [e3]
  generalize (if a != 0 then a else b) = r at *
  go_enter Tryz.func43, Tryz.ntmps43
  go_wp2
  go_loopw [8] (fun i wr => ∃ k : Nat, k ≤ 2 ∧ i = .int .i64 k ∧ wr = W ∧ Hid ((0 < k → a = 0) ∧ (2 ≤ k → (0 : Int) = r))) (fun i _ => 2 - (intOf i).toNat)
  case atStart => exact ⟨0, by omega, rfl, rfl, hid ⟨fun h => by omega, fun h => by omega⟩⟩
  case round =>
    obtain ⟨k, hk, rfl, rfl, hz⟩ := hrel
    by_cases hlt : k < 2
    · obtain ⟨b', o', e, hc⟩ := h.int hlt
      cases e
      rw [Nat.zero_add] at hc
      have hbl := lt_of_cell hc
      replace HV := HV k hlt
      have HW2 : Hid (k + 1 = 2 → ([a, b].getD k 0 != 0) = false → 0 = r) := hid fun ek ec => by
        obtain rfl : k = 1 := by omega
        exact HW ec hz.out.1
      clear HW
      generalize [a, b].getD k 0 = c at *
      by_cases hc0 : c = 0
      · have e1 : (c != 0) = false := by simpa using hc0
        have HR : Hid ((0 < k + 1 → a = 0) ∧ (2 ≤ k + 1 → (0 : Int) = r)) := hid ⟨HV.out.2 e1 hz.out.1, fun h => HW2.out (by omega) e1⟩
        clear hc0 HV HW2 hz h
        go_wp2
        go_roundw
        case rel => exact ⟨k + 1, by omega, by go_num, trivial, HR⟩
        case measure => simp [intOf]; omega
      · have e1 : (c != 0) = true := by simpa using hc0
        have HR : Hid (c = r) := hid (HV.out.1 e1 hz.out.1)
        clear hc0 HV HW2 hz h
        go_wp2
        go_ret
        rw [← HR.out]
        exact ⟨rfl, rfl⟩
    · obtain rfl : k = 2 := by omega
      have HR : Hid ((0 : Int) = r) := hid (hz.out.2 (by omega))
      clear hz h HV HW
      go_wp2
      go_ret
      rw [← HR.out]
      exact ⟨rfl, rfl⟩

theorem drew_row2 (A : World) (v0 v1 : Value) (t : TypeId) (n : Nat) (hn : A.heap.size = n) : (A.alloc (.cells #[v0, v1] t)).drew.cell? ⟨n, 0, none⟩ = some v0 ∧ (A.alloc (.cells #[v0, v1] t)).drew.cell? ⟨n, 1, none⟩ = some v1 := by
  subst hn
  obtain ⟨s0, s1, _, _⟩ := row2 (heap_alloc_new A (.cells #[v0, v1] t))
  exact ⟨s0, s1⟩
theorem drew_below (A : World) (o : Obj) : Below A.drew.heap.size A.drew (A.alloc o).drew := by
  have := (Below.refl A.heap.size A).alloc (Nat.le_refl _) o
  exact ⟨this.1, this.2, this.3, this.4, this.5⟩
def encE (x : Ch.Hold) : List Value := [.int .i64 x.t, .int .i64 x.m]
theorem ltE_of (x y : Ch.Hold) : ltOf cfE x y = Ch.ltE x y := by
  unfold ltOf cfE cfI Ch.ltE
  by_cases h1 : x.t < y.t
  · simp [h1]
  · by_cases h2 : y.t < x.t
    · have h3 : ¬ x.t = y.t := by omega
      simp [h1, h2, h3]
    · have h3 : x.t = y.t := by omega
      by_cases h4 : x.m < y.m
      · simp [h3, h4]
      · by_cases h5 : y.m < x.m <;> simp [h3, h4, h5]
theorem swoE : SWO (ltOf cfE) where
  irrefl x := by rw [ltE_of]; exact Ch.ltE_irrefl x
  trans x y z h1 h2 := by rw [ltE_of] at *; exact Ch.ltE_trans h1 h2
  ntrans x y z h1 h2 := by
    rw [ltE_of] at *
    rw [Bool.eq_false_iff, ne_eq, Ch.ltE_iff] at *
    omega
theorem flat_hcells (xs : List Ch.Hold) : (flatK encE 2 xs.toArray).toList = hcells xs := by
  apply List.ext_getElem?
  intro i
  by_cases hi : i < xs.length * 2
  · have h1 : i / 2 < xs.length := by omega
    obtain ⟨a0, a1⟩ := hcells_at xs (i / 2) h1
    have hx : xs.toArray[i / 2]! = xs.getD (i / 2) Ch.Hold.zero := by
      rw [getElem!_pos xs.toArray (i / 2) (by simpa using h1)]
      simp [List.getD, h1]
    have hl : (flatK encE 2 xs.toArray).toList[i]? = some ((encE (xs.getD (i / 2) Ch.Hold.zero))[i % 2]!) := by
      rw [Array.getElem?_toList]
      simp only [flatK, Array.getElem?_map, List.size_toArray]
      rw [Array.getElem?_range, if_pos hi]
      simp only [Option.map_some, hx]
    rw [hl]
    have h2 : i % 2 = 0 ∨ i % 2 = 1 := by omega
    rcases h2 with h2 | h2
    · have e : (hcells xs)[i]? = (hcells xs)[i / 2 * 2]? := by congr 1; omega
      rw [e, a0, h2]; rfl
    · have e : (hcells xs)[i]? = (hcells xs)[i / 2 * 2 + 1]? := by congr 1; omega
      rw [e, a1, h2]; rfl
  · rw [List.getElem?_eq_none (by simp [flatK]; omega), List.getElem?_eq_none (by rw [hcells_len]; omega)]
theorem heap_sortedE {w : World} {g n : Nat} {os : Array Obj} {cur : Array Value} {e : TypeId} {fr : Nat × Nat} (F : Array Value) (hb : w.heap[g]? = some (.cells cur e fr)) :
    (grow (putRow id (Sort.ahead w n) g 0 F) os).heap[g]? = some (.cells (putCells id 0 F cur) e fr) := by
  have hg : g < w.heap.size := (Array.getElem?_eq_some_iff.1 hb).1
  rw [heap_grow_old _ _ (by simpa using hg)]
  simp [putRow, mapBlock, Sort.ahead, Array.getElem?_modify, hb, onCells]
theorem grownBy_sortedE {w : World} {g n : Nat} {os : Array Obj} (F : Array Value) : w.grownBy (grow (putRow id (Sort.ahead w n) g 0 F) os) (some g) := by
  refine ⟨rfl, rfl, rfl, by simp, fun k hk hne => ?_⟩
  rw [heap_grow_old _ _ (by simpa using hk)]
  have : g ≠ k := fun e => hne (by rw [e])
  simp [putRow, mapBlock, Sort.ahead, Array.getElem?_modify, this]
theorem take_putCellsE (cur F : Array Value) (h : F.size ≤ cur.size) : (putCells id 0 F cur).toList.take F.size = F.toList := by
  apply List.ext_getElem?
  intro j
  by_cases hj : j < F.size
  · rw [List.getElem?_take_of_lt hj, Array.getElem?_toList]
    simp [putCells, hj, show j < cur.size by omega]
  · rw [List.getElem?_take_eq_none (by omega), List.getElem?_eq_none (by simp; omega)]
theorem holdsE {w : World} {g : Nat} {cur : Array Value} {e : TypeId} {F : Array Value} (hb : w.heap[g]? = some (.cells cur e (0, 0))) (ht : cur.toList.take F.size = F.toList) : Holds id w g 0 F := by
  intro j hj
  refine ⟨?_, by simp [World.frozen?, hb]⟩
  have h1 : (cur.toList.take F.size)[j]? = F.toList[j]? := by rw [ht]
  rw [List.getElem?_take_of_lt hj] at h1
  simp only [World.cell?, hb, Nat.zero_add]
  simp only [Option.isSome_none, Bool.false_eq_true, if_false]
  rw [← Array.getElem?_toList, h1]
  simp [hj]

end Go.Proofs.YthfanfnbjldddaaGreat


/- slices.SortFunc of pairs, laid. -/
namespace Go.Proofs.YthfanfnbjldddaaGreat
open Go.Shelf Go.RowKit Go.Lib Go.Sort
shelf_lay_g SlLaysF0.n6 Slsf 6 at Tryz 20 as Tryz.sortPairs
end Go.Proofs.YthfanfnbjldddaaGreat


/- comparePairs. -/
namespace Go.Proofs.YthfanfnbjldddaaGreat
open Go.RowKit Go.Maps Go.Sort

set_option maxRecDepth 20000 in
set_option maxHeartbeats 1000000 in
theorem cmpP_any (x y : Ch.Hold) (W : World) : Calls Tryz.prog 21 #[.agg #[.int .i64 x.t, .int .i64 x.m], .agg #[.int .i64 y.t, .int .i64 y.m]] W fun e w' => e = .returned (.int .i64 (cfE x y)) ∧ ∃ q os', w' = grow (W.drewN q) os' := by
  obtain ⟨x0, x1⟩ := x
  obtain ⟨y0, y1⟩ := y
  have I0 := fun W => cmpI_any x0 y0 W
  have I1 := fun W => cmpI_any x1 y1 W
  unfold cfE
  simp only
  generalize cfI x0 y0 = c0 at *
  generalize cfI x1 y1 = c1 at *
  have IO := fun blk W h0 h1 => orI_any blk c0 c1 W h0 h1
  generalize (if c0 != 0 then c0 else c1) = r at *
  have k1 := (Below.refl (W.alloc (.cells #[.int .i64 x0, .int .i64 x1] 55)).heap.size (W.alloc (.cells #[.int .i64 x0, .int .i64 x1] 55))).alloc (Nat.le_refl _) (.cells #[.int .i64 y0, .int .i64 y1] 55)
  obtain ⟨a0, a1, _, _⟩ := row2 (heap_alloc_new W (.cells #[.int .i64 x0, .int .i64 x1] 55))
  replace a0 := keep_cell k1 a0
  replace a1 := keep_cell k1 a1
  obtain ⟨b0, b1, _, _⟩ := row2 (heap_alloc_new (W.alloc (.cells #[.int .i64 x0, .int .i64 x1] 55)) (.cells #[.int .i64 y0, .int .i64 y1] 55))
  have sz : (W.alloc (.cells #[.int .i64 x0, .int .i64 x1] 55)).heap.size = W.heap.size + 1 := by simp
  rw [sz] at b0 b1
  clear sz k1
  have kQ := drew_below ((W.alloc (.cells #[.int .i64 x0, .int .i64 x1] 55)).alloc (.cells #[.int .i64 y0, .int .i64 y1] 55)) (.cells #[.int .i64 c0, .int .i64 c1] 3)
  go_enter Tryz.func21, Tryz.ntmps21
  go_wp2_with fail
  refine wp_region_noPanic ?_
  refine wp_region_held_drew (S := fun W' => W'.cell? ⟨W.heap.size, 0, none⟩ = some (.int .i64 x0) ∧ W'.cell? ⟨W.heap.size, 1, none⟩ = some (.int .i64 x1) ∧ W'.cell? ⟨W.heap.size + 1, 0, none⟩ = some (.int .i64 y0) ∧ W'.cell? ⟨W.heap.size + 1, 1, none⟩ = some (.int .i64 y1)) (by kernel_rfl) (⟨a0, a1, b0, b1⟩) (fun hH => ?_)
  refine hTake (i := 0) (v := ?_) rfl (by kernel_rfl) (by kernel_rfl) (by kernel_rfl) (by rfl) ?_ hH ?_
  rotate_left
  · intro W hW; (try dsimp only at hW); go_simp <;> with_reducible rfl
  simp only [Act.put, List.setIfInBounds_toArray, List.set_cons_zero, List.set_cons_succ]
  refine hTake (i := 1) (v := ?_) rfl (by kernel_rfl) (by kernel_rfl) (by kernel_rfl) (by rfl) ?_ hH ?_
  rotate_left
  · intro W hW; (try dsimp only at hW); go_simp <;> with_reducible rfl
  simp only [Act.put, List.setIfInBounds_toArray, List.set_cons_zero, List.set_cons_succ]
  refine hTake (i := 2) (v := ?_) rfl (by kernel_rfl) (by kernel_rfl) (by kernel_rfl) (by rfl) ?_ hH ?_
  rotate_left
  · intro W hW; (try dsimp only at hW); go_simp <;> with_reducible rfl
  simp only [Act.put, List.setIfInBounds_toArray, List.set_cons_zero, List.set_cons_succ]
  refine hTake (i := 3) (v := ?_) rfl (by kernel_rfl) (by kernel_rfl) (by kernel_rfl) (by rfl) ?_ hH ?_
  rotate_left
  · intro W hW; (try dsimp only at hW); go_simp <;> with_reducible rfl
  simp only [Act.put, List.setIfInBounds_toArray, List.set_cons_zero, List.set_cons_succ]
  refine hTake (i := 5) (v := ?_) rfl (by kernel_rfl) (by kernel_rfl) (by kernel_rfl) (by rfl) ?_ hH ?_
  rotate_left
  · intro W hW; (try dsimp only at hW); go_simp <;> with_reducible rfl
  simp only [Act.put, List.setIfInBounds_toArray, List.set_cons_zero, List.set_cons_succ]
  refine hTake (i := 6) (v := ?_) rfl (by kernel_rfl) (by kernel_rfl) (by kernel_rfl) (by rfl) ?_ hH ?_
  rotate_left
  · intro W hW; (try dsimp only at hW); go_simp <;> with_reducible rfl
  simp only [Act.put, List.setIfInBounds_toArray, List.set_cons_zero, List.set_cons_succ]
  refine hTake (i := 7) (v := ?_) rfl (by kernel_rfl) (by kernel_rfl) (by kernel_rfl) (by rfl) ?_ hH ?_
  rotate_left
  · intro W hW; (try dsimp only at hW); go_simp <;> with_reducible rfl
  simp only [Act.put, List.setIfInBounds_toArray, List.set_cons_zero, List.set_cons_succ]
  refine hTake (i := 8) (v := ?_) rfl (by kernel_rfl) (by kernel_rfl) (by kernel_rfl) (by rfl) ?_ hH ?_
  rotate_left
  · intro W hW; (try dsimp only at hW); go_simp <;> with_reducible rfl
  simp only [Act.put, List.setIfInBounds_toArray, List.set_cons_zero, List.set_cons_succ]
  refine wpAnyH_ready (rs := [4]) (by kernel_rfl) (by simp) ?_
  refine AllReadyH.cons rfl (fun K hK => ?_) AllReadyH.nil
  go_simp
  refine (I0 _).mono ?_
  rintro e w' ⟨rfl, rfl⟩
  refine hK.out _ _ ?_ (fun hH => ?_)
  · exact hH
  clear hK K
  refine wpAnyH_ready (rs := [9]) (by kernel_rfl) (by simp) ?_
  refine AllReadyH.cons rfl (fun K hK => ?_) AllReadyH.nil
  go_simp
  refine (I1 _).mono ?_
  rintro e w' ⟨rfl, rfl⟩
  refine hK.out _ _ ?_ (fun hH => ?_)
  · exact hH
  clear hK K
  refine wpAnyH_ready (rs := [10]) (by kernel_rfl) (by simp) ?_
  refine AllReadyH.cons rfl (fun K hK => ?_) AllReadyH.nil
  go_simp
  refine hK.out _ _ ?_ (fun hH => ?_)
  · exact ⟨keep_cell kQ hH.1, keep_cell kQ hH.2.1, keep_cell kQ hH.2.2.1, keep_cell kQ hH.2.2.2⟩
  clear hK K
  refine wpAnyH_ready (rs := [11]) (by kernel_rfl) (by simp) ?_
  refine AllReadyH.cons rfl (fun K hK => ?_) AllReadyH.nil
  obtain ⟨s0, s1⟩ := drew_row2 ((W.alloc (.cells #[.int .i64 x0, .int .i64 x1] 55)).alloc (.cells #[.int .i64 y0, .int .i64 y1] 55)) (.int .i64 c0) (.int .i64 c1) 3 (W.heap.size + 2) (by simp)
  go_simp
  refine (IO _ _ s0 s1).mono ?_
  rintro e w' ⟨rfl, rfl⟩
  refine hK.out _ _ ?_ (fun hH => ?_)
  · exact hH
  clear hK K
  refine hTake (i := 12) (v := ?_) rfl (by kernel_rfl) (by kernel_rfl) (by kernel_rfl) (by rfl) ?_ hH ?_
  rotate_left
  · intro W hW; (try dsimp only at hW); go_simp <;> with_reducible rfl
  simp only [Act.put, List.setIfInBounds_toArray, List.set_cons_zero, List.set_cons_succ]
  refine wpAnyH_done (by kernel_rfl) ?_ _
  refine NoPanic.normal ?_
  go_wp2
  go_ret
  refine ⟨rfl, 1, #[.cells #[.int .i64 x0, .int .i64 x1] 55] ++ #[.cells #[.int .i64 y0, .int .i64 y1] 55] ++ #[.cells #[.int .i64 c0, .int .i64 c1] 3], ?_⟩
  simp only [alloc_eq_grow, drew_grow, grow_grow]
  rfl
theorem cmpLaysP (blk off size : Nat) (w : World) : CmpLays Tryz.prog 21 #[] encE 2 cfE blk off size w :=
  fun _ _ _ _ x y => cmpP_any x y _
end Go.Proofs.YthfanfnbjldddaaGreat


/- IndexFault of the program and of the model. -/
namespace Go.Proofs.YthfanfnbjldddaaGreat
open Go.RowKit Go.Maps

theorem cfE_lt {x y : Ch.Hold} (h : Ch.ltE x y = true) : cfE x y < 0 := by
  rw [← ltE_of] at h; simpa [ltOf] using h
theorem cfE_ge {x y : Ch.Hold} (h : Ch.ltE x y = false) : 0 ≤ cfE x y := by
  rw [← ltE_of] at h
  have : ¬ cfE x y < 0 := by simpa [ltOf] using h
  omega
theorem cmpP_below (x y : Ch.Hold) (W : World) : Calls Tryz.prog 21 #[.agg #[.int .i64 x.t, .int .i64 x.m], .agg #[.int .i64 y.t, .int .i64 y.m]] W fun e w' => e = .returned (.int .i64 (cfE x y)) ∧ Below W.heap.size W w' := by
  refine (cmpP_any x y W).mono ?_
  rintro e w' ⟨rfl, q, os, rfl⟩
  refine ⟨rfl, rfl, rfl, rfl, by simp, fun k hk => ?_⟩
  rw [Go.Sort.heap_grow_old _ _ (by simpa [World.drewN] using hk)]
  rfl

set_option linter.unusedSimpArgs false in
set_option maxRecDepth 20000 in
set_option maxHeartbeats 4000000 in
theorem implIx_any (a : Option Addr) (n cap : Nat) (ps : List Ch.Hold) (w : World) (h : CellsAt w a (n * 2) (hcells ps)) (hn : n ≤ 1048576) :
    Calls Tryz.prog 13 #[.slice a n cap] w fun e w' => e = .returned (.int .i64 (Ch.ixFault ps)) ∧ Below w.heap.size w w' := by
  have HL := h.hlen
  by_cases hbig : 240 < n
  · have HF : Hid (Ch.ixFault ps = 2) := Ch.ix_big (by have := HL.out; omega)
    go_enter Tryz.func13, Tryz.ntmps13
    go_wp2
    go_ret
    exact ⟨ret_int HF.out.symm, Below.refl _ _⟩
  have hn4 : n ≤ 240 := by omega
  have hpl : ps.length ≤ 240 := by have := HL.out; omega
  clear hbig
  go_enter Tryz.func13, Tryz.ntmps13
  go_wp2
  go_loopw [10] (fun i wr => ∃ k : Nat, k ≤ n ∧ i = .int .i64 k ∧ Hid (Ch.ixRest ps 0 = Ch.ixRest ps k) ∧ Hid (∀ j, j < k → Ch.ixAt ps j = 0) ∧ Below w.heap.size w wr) (fun i _ => n - (intOf i).toNat)
  case atStart => exact ⟨0, Nat.zero_le _, rfl, hid rfl, hid (fun j hj => by omega), Below.refl _ _⟩
  case round =>
    obtain ⟨k, hk, rfl, HH, HA, hB⟩ := hrel
    by_cases hlt : k < n
    · have hkl : k < ps.length := by have := HL.out; omega
      have HS := hid (fun c (he : Ch.ixAt ps k = c) (hc : (c != 0) = true) => Ch.ix_code hpl (HH.out.trans ((Ch.ix_at hkl (by rw [he]; exact hc)).trans he)) hc)
      have HN := hid (fun (he : Ch.ixAt ps k = 0) => HH.out.trans (Ch.ix_on hkl (by rw [he]; rfl)))
      have HAN := hid (fun (he : Ch.ixAt ps k = 0) => (Ch.step_all (p := fun j => Ch.ixAt ps j == 0) (k := k) (fun j hj => by simpa using HA.out j hj) (by simpa using he)))
      have HRG := hid (fun hr => Ch.ixAt_range (ps := ps) (k := k) hr)
      have HFM := hid (fun hr h0 hl => Ch.ixAt_form (ps := ps) (k := k) hr h0 hl)
      have HF0 := hid (fun hr h0 => Ch.ixAt_first (ps := ps) (k := k) hr h0)
      have HFN := hid (fun hr hl => Ch.ixAt_fine (ps := ps) (k := k) hr hl)
      obtain ⟨g, off, hao, q0, q1⟩ := (h.below hB).hold hlt
      have HP := hid (fun (h0 : 0 < k) => (h.below hB).hold (k := k - 1) (by omega))
      have hbl := lt_of_cell q0
      generalize ps.getD (k - 1) Ch.Hold.zero = pr at *
      obtain ⟨pt, pm⟩ := pr
      generalize ps.getD k Ch.Hold.zero = r at *
      obtain ⟨rt, rm⟩ := r
      subst hao
      simp only at q0 q1 HRG HFM HF0 HFN HP
      have hB1 : Below w.heap.size w (wr.alloc (.cells #[.int .i64 rt, .int .i64 rm] 55)) := hB.alloc hB.size _
      have kB : Below wr.heap.size wr (wr.alloc (.cells #[.int .i64 rt, .int .i64 rm] 55)) := (Below.refl _ _).alloc (Nat.le_refl _) _
      obtain ⟨s0, s1, _, _⟩ := row2 (heap_alloc_new wr (.cells #[.int .i64 rt, .int .i64 rm] 55))
      have IM := fun W => isValue_any rt W
      have IT := fun W => isKey_any rm W
      cases hm : Ch.inB rt 0 9999
      · rw [hm] at IM
        replace HS := hid (HS.out 3 (HRG.out (by rw [hm]; rfl)) rfl)
        clear HN HAN HRG HFM HF0 HFN IT HP
        go_wp2_with fail
        refine (IM _).mono ?_
        rintro e w' ⟨rfl, rfl⟩
        go_wp2
        go_ret
        exact ⟨ret_int HS.out.symm, hB1⟩
      rw [hm] at IM
      cases ht : Ch.inB rm 0 99
      · rw [ht] at IT
        replace HS := hid (HS.out 3 (HRG.out (by rw [hm, ht]; rfl)) rfl)
        clear HN HAN HRG HFM HF0 HFN HP
        go_wp2_with fail
        refine (IM _).mono ?_
        rintro e w' ⟨rfl, rfl⟩
        go_wp2_with fail
        refine (IT _).mono ?_
        rintro e w' ⟨rfl, rfl⟩
        go_wp2
        go_ret
        exact ⟨ret_int HS.out.symm, hB1⟩
      rw [ht] at IT
      have hr : (!Ch.inB rt 0 9999 || !Ch.inB rm 0 99) = false := by rw [hm, ht]; rfl
      clear HRG
      by_cases h0 : 0 < k
      rotate_left
      · have hk0 : k = 0 := by omega
        have HX := hid (HF0.out hr hk0)
        replace HN := hid (HN.out HX.out)
        replace HAN := hid (HAN.out (by rw [HX.out]))
        subst hk0
        have hd0 : decide ((0 : Int) < ((0 : Nat) : Int)) = false := by simp
        simp only [Nat.zero_mul, Nat.add_zero] at q0 q1
        clear HS HFM HF0 HFN HP hr hm ht
        go_wp2_with fail
        refine (IM _).mono ?_
        rintro e w' ⟨rfl, rfl⟩
        go_wp2_with fail
        refine (IT _).mono ?_
        rintro e w' ⟨rfl, rfl⟩
        clear IM IT
        go_wp2_with fail
        refine wp_region_noPanic ?_
        refine wp_region_held_drew (S := fun W' => Below w.heap.size w W') (by kernel_rfl) (hB1.drew) (fun hH => ?_)
        refine hTake (i := 0) (v := ?_) rfl (by kernel_rfl) (by kernel_rfl) (by kernel_rfl) (by rfl) ?_ hH ?_
        rotate_left
        · intro W hW; (try dsimp only at hW); go_simp <;> with_reducible rfl
        simp only [Act.put, List.setIfInBounds_toArray, List.set_cons_zero, List.set_cons_succ]
        refine hTake (i := 1) (v := ?_) rfl (by kernel_rfl) (by kernel_rfl) (by kernel_rfl) (by rfl) ?_ hH ?_
        rotate_left
        · intro W hW; (try dsimp only at hW); go_simp <;> with_reducible rfl
        simp only [Act.put, List.setIfInBounds_toArray, List.set_cons_zero, List.set_cons_succ]
        refine hTake (i := 2) (v := ?_) rfl (by kernel_rfl) (by kernel_rfl) (by kernel_rfl) (by rfl) ?_ hH ?_
        rotate_left
        · intro W hW; (try dsimp only at hW); go_simp <;> with_reducible rfl
        simp only [Act.put, List.setIfInBounds_toArray, List.set_cons_zero, List.set_cons_succ]
        refine hSkip (i := 3) rfl (by kernel_rfl) (by kernel_rfl) (by kernel_rfl) (by rfl) hH ?_
        simp only [Act.put, List.setIfInBounds_toArray, List.set_cons_zero, List.set_cons_succ]
        refine hSkip (i := 4) rfl (by kernel_rfl) (by kernel_rfl) (by kernel_rfl) (by rfl) hH ?_
        simp only [Act.put, List.setIfInBounds_toArray, List.set_cons_zero, List.set_cons_succ]
        refine hSkip (i := 5) rfl (by kernel_rfl) (by kernel_rfl) (by kernel_rfl) (by rfl) hH ?_
        simp only [Act.put, List.setIfInBounds_toArray, List.set_cons_zero, List.set_cons_succ]
        refine hSkip (i := 6) rfl (by kernel_rfl) (by kernel_rfl) (by kernel_rfl) (by rfl) hH ?_
        simp only [Act.put, List.setIfInBounds_toArray, List.set_cons_zero, List.set_cons_succ]
        refine hSkip (i := 7) rfl (by kernel_rfl) (by kernel_rfl) (by kernel_rfl) (by rfl) hH ?_
        simp only [Act.put, List.setIfInBounds_toArray, List.set_cons_zero, List.set_cons_succ]
        refine hSkip (i := 8) rfl (by kernel_rfl) (by kernel_rfl) (by kernel_rfl) (by rfl) hH ?_
        simp only [Act.put, List.setIfInBounds_toArray, List.set_cons_zero, List.set_cons_succ]
        refine hSkip (i := 9) rfl (by kernel_rfl) (by kernel_rfl) (by kernel_rfl) (by rfl) hH ?_
        simp only [Act.put, List.setIfInBounds_toArray, List.set_cons_zero, List.set_cons_succ]
        refine hSkip (i := 10) rfl (by kernel_rfl) (by kernel_rfl) (by kernel_rfl) (by rfl) hH ?_
        simp only [Act.put, List.setIfInBounds_toArray, List.set_cons_zero, List.set_cons_succ]
        refine hTake (i := 11) (v := ?_) rfl (by kernel_rfl) (by kernel_rfl) (by kernel_rfl) (by rfl) ?_ hH ?_
        rotate_left
        · intro W hW; (try dsimp only at hW); go_simp <;> with_reducible rfl
        simp only [Act.put, List.setIfInBounds_toArray, List.set_cons_zero, List.set_cons_succ]
        refine wpAnyH_done (by kernel_rfl) ?_ _
        refine NoPanic.normal ?_
        have hB2 := hH
        clear hH
        go_wp2
        go_roundw
        case rel => exact ⟨0 + 1, by omega, by go_num, HN, hid (fun j hj => by simpa using HAN.out j hj), hB2⟩
        case measure => simp [intOf]; omega
      obtain ⟨g', off', hg', u0, u1⟩ := HP.out h0
      cases hg'
      replace u0 := keep_cell kB u0
      replace u1 := keep_cell kB u1
      have IC := fun W => cmpP_below ⟨pt, pm⟩ ⟨rt, rm⟩ W
      simp only at IC
      obtain ⟨i, rfl⟩ : ∃ i, k = i + 1 := ⟨k - 1, by omega⟩
      simp only [Nat.add_sub_cancel] at u0 u1
      have hd0 : (0 : Int) < ((i + 1 : Nat) : Int) := by omega
      have hk1 : i < n := by omega
      have hwi : IntKind.i64.wrap (i : Int) = (i : Int) := IntWalk.i64_in _ ⟨by omega, by omega⟩
      clear HP HF0 kB
      cases hl : Ch.ltE ⟨pt, pm⟩ ⟨rt, rm⟩
      · have hc := cfE_ge hl
        replace HS := hid (HS.out 1 (HFM.out hr h0 hl) rfl)
        clear HN HAN HFM HFN hr hm ht hl
        generalize cfE ⟨pt, pm⟩ ⟨rt, rm⟩ = c at *
        go_wp2_with fail
        refine (IM _).mono ?_
        rintro e w' ⟨rfl, rfl⟩
        go_wp2_with fail
        refine (IT _).mono ?_
        rintro e w' ⟨rfl, rfl⟩
        clear IM IT
        go_wp2_with fail
        refine wp_region_noPanic ?_
        refine wp_region_held_drew (S := fun W' => W'.cell? ⟨g, off + i * 2, none⟩ = some (.int .i64 pt) ∧ W'.cell? ⟨g, off + i * 2 + 1, none⟩ = some (.int .i64 pm) ∧ W'.cell? ⟨wr.heap.size, 0, none⟩ = some (.int .i64 rt) ∧ W'.cell? ⟨wr.heap.size, 1, none⟩ = some (.int .i64 rm) ∧ Below w.heap.size w W') (by kernel_rfl) (⟨u0, u1, s0, s1, hB1.drew⟩) (fun hH => ?_)
        refine hTake (i := 0) (v := ?_) rfl (by kernel_rfl) (by kernel_rfl) (by kernel_rfl) (by rfl) ?_ hH ?_
        rotate_left
        · intro W hW; (try dsimp only at hW); go_simp <;> with_reducible rfl
        simp only [Act.put, List.setIfInBounds_toArray, List.set_cons_zero, List.set_cons_succ]
        refine hTake (i := 1) (v := ?_) rfl (by kernel_rfl) (by kernel_rfl) (by kernel_rfl) (by rfl) ?_ hH ?_
        rotate_left
        · intro W hW; (try dsimp only at hW); go_simp <;> with_reducible rfl
        simp only [Act.put, List.setIfInBounds_toArray, List.set_cons_zero, List.set_cons_succ]
        refine hTake (i := 2) (v := ?_) rfl (by kernel_rfl) (by kernel_rfl) (by kernel_rfl) (by rfl) ?_ hH ?_
        rotate_left
        · intro W hW; (try dsimp only at hW); go_simp <;> with_reducible rfl
        simp only [Act.put, List.setIfInBounds_toArray, List.set_cons_zero, List.set_cons_succ]
        refine hTake (i := 3) (v := ?_) rfl (by kernel_rfl) (by kernel_rfl) (by kernel_rfl) (by rfl) ?_ hH ?_
        rotate_left
        · intro W hW; (try dsimp only at hW); go_simp <;> with_reducible rfl
        simp only [Act.put, List.setIfInBounds_toArray, List.set_cons_zero, List.set_cons_succ]
        refine hTake (i := 4) (v := ?_) rfl (by kernel_rfl) (by kernel_rfl) (by kernel_rfl) (by rfl) ?_ hH ?_
        rotate_left
        · intro W hW; (try dsimp only at hW); go_simp <;> with_reducible rfl
        simp only [Act.put, List.setIfInBounds_toArray, List.set_cons_zero, List.set_cons_succ]
        refine hTake (i := 5) (v := ?_) rfl (by kernel_rfl) (by kernel_rfl) (by kernel_rfl) (by rfl) ?_ hH ?_
        rotate_left
        · intro W hW; (try dsimp only at hW); go_simp <;> with_reducible rfl
        simp only [Act.put, List.setIfInBounds_toArray, List.set_cons_zero, List.set_cons_succ]
        refine hTake (i := 6) (v := ?_) rfl (by kernel_rfl) (by kernel_rfl) (by kernel_rfl) (by rfl) ?_ hH ?_
        rotate_left
        · intro W hW; (try dsimp only at hW); go_simp <;> with_reducible rfl
        simp only [Act.put, List.setIfInBounds_toArray, List.set_cons_zero, List.set_cons_succ]
        refine hTake (i := 7) (v := ?_) rfl (by kernel_rfl) (by kernel_rfl) (by kernel_rfl) (by rfl) ?_ hH ?_
        rotate_left
        · intro W hW; (try dsimp only at hW); go_simp <;> with_reducible rfl
        simp only [Act.put, List.setIfInBounds_toArray, List.set_cons_zero, List.set_cons_succ]
        refine hTake (i := 8) (v := ?_) rfl (by kernel_rfl) (by kernel_rfl) (by kernel_rfl) (by rfl) ?_ hH ?_
        rotate_left
        · intro W hW; (try dsimp only at hW); go_simp <;> with_reducible rfl
        simp only [Act.put, List.setIfInBounds_toArray, List.set_cons_zero, List.set_cons_succ]
        refine wpAnyH_ready (rs := [9]) (by kernel_rfl) (by simp) ?_
        refine AllReadyH.cons rfl (fun K hK => ?_) AllReadyH.nil
        go_simp
        refine (IC _).mono ?_
        rintro e w9 ⟨rfl, b9⟩
        refine hK.out _ _ ?_ (fun hH => ?_)
        · exact ⟨keep_cell b9 hH.1, keep_cell b9 hH.2.1, keep_cell b9 hH.2.2.1, keep_cell b9 hH.2.2.2.1, hH.2.2.2.2.trans (b9.mono hH.2.2.2.2.size)⟩
        clear hK K
        refine hTake (i := 10) (v := ?_) rfl (by kernel_rfl) (by kernel_rfl) (by kernel_rfl) (by rfl) ?_ hH ?_
        rotate_left
        · intro W hW; (try dsimp only at hW); go_simp <;> with_reducible rfl
        simp only [Act.put, List.setIfInBounds_toArray, List.set_cons_zero, List.set_cons_succ]
        refine hTake (i := 11) (v := ?_) rfl (by kernel_rfl) (by kernel_rfl) (by kernel_rfl) (by rfl) ?_ hH ?_
        rotate_left
        · intro W hW; (try dsimp only at hW); go_simp <;> with_reducible rfl
        simp only [Act.put, List.setIfInBounds_toArray, List.set_cons_zero, List.set_cons_succ]
        refine wpAnyH_done (by kernel_rfl) ?_ _
        refine NoPanic.normal ?_
        have hB2 := hH.2.2.2.2
        clear hH
        go_wp2
        go_ret
        exact ⟨ret_int HS.out.symm, hB2⟩
      · have hc := cfE_lt hl
        have HX := hid (HFN.out hr hl)
        replace HN := hid (HN.out HX.out)
        replace HAN := hid (HAN.out (by rw [HX.out]))
        clear HS HFM HFN hr hm ht hl
        generalize cfE ⟨pt, pm⟩ ⟨rt, rm⟩ = c at *
        have hc' : ¬ 0 ≤ c := by omega
        go_wp2_with fail
        refine (IM _).mono ?_
        rintro e w' ⟨rfl, rfl⟩
        go_wp2_with fail
        refine (IT _).mono ?_
        rintro e w' ⟨rfl, rfl⟩
        clear IM IT
        go_wp2_with fail
        refine wp_region_noPanic ?_
        refine wp_region_held_drew (S := fun W' => W'.cell? ⟨g, off + i * 2, none⟩ = some (.int .i64 pt) ∧ W'.cell? ⟨g, off + i * 2 + 1, none⟩ = some (.int .i64 pm) ∧ W'.cell? ⟨wr.heap.size, 0, none⟩ = some (.int .i64 rt) ∧ W'.cell? ⟨wr.heap.size, 1, none⟩ = some (.int .i64 rm) ∧ Below w.heap.size w W') (by kernel_rfl) (⟨u0, u1, s0, s1, hB1.drew⟩) (fun hH => ?_)
        refine hTake (i := 0) (v := ?_) rfl (by kernel_rfl) (by kernel_rfl) (by kernel_rfl) (by rfl) ?_ hH ?_
        rotate_left
        · intro W hW; (try dsimp only at hW); go_simp <;> with_reducible rfl
        simp only [Act.put, List.setIfInBounds_toArray, List.set_cons_zero, List.set_cons_succ]
        refine hTake (i := 1) (v := ?_) rfl (by kernel_rfl) (by kernel_rfl) (by kernel_rfl) (by rfl) ?_ hH ?_
        rotate_left
        · intro W hW; (try dsimp only at hW); go_simp <;> with_reducible rfl
        simp only [Act.put, List.setIfInBounds_toArray, List.set_cons_zero, List.set_cons_succ]
        refine hTake (i := 2) (v := ?_) rfl (by kernel_rfl) (by kernel_rfl) (by kernel_rfl) (by rfl) ?_ hH ?_
        rotate_left
        · intro W hW; (try dsimp only at hW); go_simp <;> with_reducible rfl
        simp only [Act.put, List.setIfInBounds_toArray, List.set_cons_zero, List.set_cons_succ]
        refine hTake (i := 3) (v := ?_) rfl (by kernel_rfl) (by kernel_rfl) (by kernel_rfl) (by rfl) ?_ hH ?_
        rotate_left
        · intro W hW; (try dsimp only at hW); go_simp <;> with_reducible rfl
        simp only [Act.put, List.setIfInBounds_toArray, List.set_cons_zero, List.set_cons_succ]
        refine hTake (i := 4) (v := ?_) rfl (by kernel_rfl) (by kernel_rfl) (by kernel_rfl) (by rfl) ?_ hH ?_
        rotate_left
        · intro W hW; (try dsimp only at hW); go_simp <;> with_reducible rfl
        simp only [Act.put, List.setIfInBounds_toArray, List.set_cons_zero, List.set_cons_succ]
        refine hTake (i := 5) (v := ?_) rfl (by kernel_rfl) (by kernel_rfl) (by kernel_rfl) (by rfl) ?_ hH ?_
        rotate_left
        · intro W hW; (try dsimp only at hW); go_simp <;> with_reducible rfl
        simp only [Act.put, List.setIfInBounds_toArray, List.set_cons_zero, List.set_cons_succ]
        refine hTake (i := 6) (v := ?_) rfl (by kernel_rfl) (by kernel_rfl) (by kernel_rfl) (by rfl) ?_ hH ?_
        rotate_left
        · intro W hW; (try dsimp only at hW); go_simp <;> with_reducible rfl
        simp only [Act.put, List.setIfInBounds_toArray, List.set_cons_zero, List.set_cons_succ]
        refine hTake (i := 7) (v := ?_) rfl (by kernel_rfl) (by kernel_rfl) (by kernel_rfl) (by rfl) ?_ hH ?_
        rotate_left
        · intro W hW; (try dsimp only at hW); go_simp <;> with_reducible rfl
        simp only [Act.put, List.setIfInBounds_toArray, List.set_cons_zero, List.set_cons_succ]
        refine hTake (i := 8) (v := ?_) rfl (by kernel_rfl) (by kernel_rfl) (by kernel_rfl) (by rfl) ?_ hH ?_
        rotate_left
        · intro W hW; (try dsimp only at hW); go_simp <;> with_reducible rfl
        simp only [Act.put, List.setIfInBounds_toArray, List.set_cons_zero, List.set_cons_succ]
        refine wpAnyH_ready (rs := [9]) (by kernel_rfl) (by simp) ?_
        refine AllReadyH.cons rfl (fun K hK => ?_) AllReadyH.nil
        go_simp
        refine (IC _).mono ?_
        rintro e w9 ⟨rfl, b9⟩
        refine hK.out _ _ ?_ (fun hH => ?_)
        · exact ⟨keep_cell b9 hH.1, keep_cell b9 hH.2.1, keep_cell b9 hH.2.2.1, keep_cell b9 hH.2.2.2.1, hH.2.2.2.2.trans (b9.mono hH.2.2.2.2.size)⟩
        clear hK K
        refine hTake (i := 10) (v := ?_) rfl (by kernel_rfl) (by kernel_rfl) (by kernel_rfl) (by rfl) ?_ hH ?_
        rotate_left
        · intro W hW; (try dsimp only at hW); go_simp <;> with_reducible rfl
        simp only [Act.put, List.setIfInBounds_toArray, List.set_cons_zero, List.set_cons_succ]
        refine hTake (i := 11) (v := ?_) rfl (by kernel_rfl) (by kernel_rfl) (by kernel_rfl) (by rfl) ?_ hH ?_
        rotate_left
        · intro W hW; (try dsimp only at hW); go_simp <;> with_reducible rfl
        simp only [Act.put, List.setIfInBounds_toArray, List.set_cons_zero, List.set_cons_succ]
        refine wpAnyH_done (by kernel_rfl) ?_ _
        refine NoPanic.normal ?_
        have hB2 := hH.2.2.2.2
        clear hH
        go_wp2
        go_roundw
        case rel => exact ⟨i + 1 + 1, by omega, by go_num, HN, hid (fun j hj => by simpa using HAN.out j hj), hB2⟩
        case measure => simp [intOf]; omega
    · obtain rfl : k = n := by omega
      have HZ := hid (HH.out.trans (Ch.ix_end (by have := HL.out; omega)))
      have HR : ∀ p ∈ ps, Ch.inB p.m 0 99 = true := fun p hp => by
        obtain ⟨j, hj, rfl⟩ := Ch.mem_getD hp
        exact (Ch.ixAt_zero (HA.out j (by have := HL.out; omega))).2.1
      have BK := byKey_any a k cap ps wr (h.below hB) hn4 HR
      have HTK : Hid (ps.take k = ps) := by have := HL.out; show _ = _; rw [this]; exact List.take_length
      clear HR HA HH
      go_wp2_with fail
      refine BK.mono ?_
      rintro e w2 ⟨D, rfl, own, hP, b2⟩
      have hB2 := hB.trans (b2.mono hB.size)
      by_cases hd : (Ch.keysOf ps).Nodup
      · have hsz := hP.one (by rw [HTK.out]; exact hd)
        have HF := hid (Ch.ix_fine hpl HZ.out (by simpa [Ch.ixDup] using hd))
        clear hP hd
        go_wp2_with (at_len; refine wpList_len_own _ rfl _ 70 rfl 2 55 Tryz.underlying70 plElem wr.heap.size k D rfl own ?_; rw [hsz])
        go_ret
        exact ⟨ret_int HF.out.symm, hB2⟩
      · have hsz := hP.two (by rw [HTK.out]; exact hd)
        have HF := hid (Ch.ix_taken hpl HZ.out (Ch.dup_of hd))
        clear hP hd
        generalize hms : Maps.size D = s at *
        go_wp2_with (at_len; refine wpList_len_own _ rfl _ 70 rfl 2 55 Tryz.underlying70 plElem wr.heap.size k D rfl own ?_; rw [hms])
        go_ret
        exact ⟨ret_int HF.out.symm, hB2⟩
end Go.Proofs.YthfanfnbjldddaaGreat


/- slices.SortFunc of edges at a list of one's own. -/
namespace Go.Proofs.YthfanfnbjldddaaGreat
open Go.RowKit Go.Maps Go.Sort

set_option maxRecDepth 100000 in
theorem sortP_any (B g n cap : Nat) (xs : List Ch.Hold) (w : World) (own : w.ownsRow B 55 2 (.slice (some ⟨g, 0, none⟩) n cap) n (hcells xs)) (hn : n ≤ 4194304) :
    Calls Tryz.prog 20 #[.slice (some ⟨g, 0, none⟩) n cap, .func (.func 21) #[] #[]] w fun e w' => e = .returned (.tuple #[]) ∧ (∃ ys : List Ch.Hold, ys.Perm xs ∧ ys.Pairwise (fun a b => Ch.ltE b a = false) ∧ w'.ownsRow B 55 2 (.slice (some ⟨g, 0, none⟩) n cap) n (hcells ys)) ∧ w.grownBy w' (some g) := by
  have eg : ∀ args w, (callFunc 21 args).run Tryz.prog w = .ok (.enter 21 args) w := enters_of Tryz.func21 (by kernel_rfl) rfl
  have hl : xs.length = n := by
    have := own.1
    rw [hcells_len] at this
    omega
  subst hl
  rcases own.2 with ⟨hnil, _⟩ | ⟨g', cap', cur, hv, hbase, hb, h1, h2, h3, h4⟩
  · cases hnil
  cases hv
  have hFs : ∀ ys : List Ch.Hold, (flatK encE 2 ys.toArray).size = ys.length * 2 := fun ys => by simp [flatK]
  have hH : HoldsK encE 2 w g 0 xs.toArray := holdsE hb (by rw [hFs, flat_hcells]; exact h4)
  have hcon := AnyQ.slices_SortFunc Tryz.sortPairs 2 Tryz.isAgg55 Tryz.sizeOf55 encE (fun _ => rfl) (fun x v hv => by simp [encE] at hv; rcases hv with rfl | rfl <;> rfl) cfE swoE 21 #[] g 0 cap xs.toArray w eg (cmpLaysP g 0 _ w) hH (Array.getElem?_eq_some_iff.1 hb).1 (by simp; omega)
  rw [List.size_toArray] at hcon
  refine Calls.mono hcon ?_
  rintro e w' ⟨rfl, d', nn, os, hp, hs, rfl⟩
  obtain ⟨ys, rfl⟩ : ∃ ys : List Ch.Hold, d' = ys.toArray := ⟨d'.toList, by simp⟩
  obtain ⟨hp1, _, hp3⟩ := hp
  have hyl : ys.length = xs.length := by simpa using hp1
  have hperm : ys.Perm xs := by
    have e1 : (ys.toArray.extract 0 xs.length).toList = ys := by simp [← hyl]
    have e2 : (xs.toArray.extract 0 xs.length).toList = xs := by simp
    rw [e1, e2] at hp3
    exact hp3
  refine ⟨rfl, ⟨ys, hperm, ?_, ?_⟩, grownBy_sortedE _⟩
  · rw [List.pairwise_iff_getElem]
    intro i j hi hj hij
    have := hs i j (Nat.zero_le _) hij (by omega)
    rw [ltE_of, getElem!_pos ys.toArray j (by simpa using hj), getElem!_pos ys.toArray i (by simpa using hi)] at this
    simpa using this
  · refine ⟨by rw [hcells_len]; omega, .inr ⟨g, cap, _, rfl, hbase, heap_sortedE _ hb, h1, h2, ?_, ?_⟩⟩
    · simp [putCells, h3]
    · have := take_putCellsE cur (flatK encE 2 ys.toArray) (by rw [hFs]; omega)
      rw [hFs, hyl, flat_hcells] at this
      exact this
end Go.Proofs.YthfanfnbjldddaaGreat


/- slices.SortFunc of no edges. -/
namespace Go.Proofs.YthfanfnbjldddaaGreat
open Go.Shelf Go.RowKit Go.Maps Go.Lib Go.Sort

set_option maxHeartbeats 1000000 in
theorem insPN_any (p : Option Addr) (cap : Nat) (fv : Value) (w : World) : Calls Tryz.prog 62 #[.slice p 0 cap, .int .i64 0, .int .i64 0, fv] w fun e w' => e = .returned (.tuple #[]) ∧ w' = w := by
  go_enter Tryz.func62, Tryz.ntmps62
  go_wp2
  refine wp_loop_rounds 1 ?_
  rw [rounds_succ]
  go_wp2
  go_end0
  exact ⟨rfl, rfl⟩
set_option maxHeartbeats 2000000 in
theorem pdqPN_any (p : Option Addr) (cap : Nat) (lim : Int) (fv : Value) (w : World) : Calls Tryz.prog 41 #[.slice p 0 cap, .int .i64 0, .int .i64 0, .int .i64 lim, fv] w fun e w' => e = .returned (.tuple #[]) ∧ w' = w := by
  have hi := fun W => insPN_any p cap fv W
  go_enter Tryz.func41, Tryz.ntmps41
  go_wp2
  refine wp_loop_rounds 1 ?_
  rw [rounds_succ]
  go_wp2_with (go_at_call 62; refine (hi _).mono ?_; rintro e w' ⟨rfl, rfl⟩)
  (try simp only [Exit.inBlock, Exit.then]); refine bodyPost_ret (results_none rfl _ _ _) rfl ?_
  exact ⟨rfl, rfl⟩
set_option maxHeartbeats 2000000 in
theorem lenPN_any (w : World) : Calls Tryz.prog 42 #[.int .u64 0] w fun e w' => e = .returned (.int .i64 0) ∧ w' = w := by
  have h := Any.bits_Len (SlLaysF0.n15.bits (P := Tryz.prog) { Tryz.sortPairs with }) 0 w (by omega) (by omega)
  exact h
set_option maxHeartbeats 1000000 in
theorem sortPN_any (p : Option Addr) (cap : Nat) (fv : Value) (w : World) : Calls Tryz.prog 20 #[.slice p 0 cap, fv] w fun e w' => e = .returned (.tuple #[]) ∧ w' = w := by
  have hp := fun lim W => pdqPN_any p cap lim fv W
  have hl := fun W => lenPN_any W
  go_enter Tryz.func20, Tryz.ntmps20
  go_wp2_with (first | (go_at_call 42; refine (hl _).mono ?_; rintro e w' ⟨rfl, rfl⟩) | (go_at_call 41; refine (hp _ _).mono ?_; rintro e w' ⟨rfl, rfl⟩))
  go_end0
  exact ⟨rfl, rfl⟩
end Go.Proofs.YthfanfnbjldddaaGreat

