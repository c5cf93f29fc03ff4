
/- Two numbers each, compared by the first, then by the second. -/
import Derived.Test.YtmolddlmjojceaaHd
import Derived.Test.YtmolddlmjojceaaLkN
import Derived.Test.YtmolddlmjojceaaEdK
import Derived.Sort.OwnSorted
import Derived.Shelf.SlSortCmp.WholeK
namespace Go.Proofs.Ytmolddlmjojceaa
open Go.RowKit Go.Maps Go.Sort

instance : Inhabited Ch.Hold := ⟨Ch.Hold.zero⟩
def cfI (x y : Int) : Int := if x < y then -1 else if y < x then 1 else 0
def cfE (x y : Ch.Hold) : Int := if cfI x.t y.t != 0 then cfI x.t y.t else cfI x.m y.m

set_option maxHeartbeats 1000000 in
theorem nanI_any (x : Int) (W : World) : Calls Try.prog 52 #[.int .i64 x] W fun e w' => e = .returned (.bool false) ∧ w' = W := by
  go_enter Try.func52, Try.ntmps52
  go_wp2
  go_ret
  exact ⟨by simp, rfl⟩
set_option maxHeartbeats 1000000 in
theorem cmpI_any (x y : Int) (W : World) : Calls Try.prog 41 #[.int .i64 x, .int .i64 y] W fun e w' => e = .returned (.int .i64 (cfI x y)) ∧ w' = W := by
  have IN := fun a W => nanI_any a W
  unfold cfI
  by_cases h1 : x < y
  · rw [if_pos h1]
    go_enter Try.func41, Try.ntmps41
    go_wp2_with (go_at_call 52; refine (IN _ _).mono ?_; rintro e w' ⟨rfl, rfl⟩)
    go_ret
    exact ⟨rfl, rfl⟩
  · rw [if_neg h1]
    by_cases h2 : y < x
    · rw [if_pos h2]
      go_enter Try.func41, Try.ntmps41
      go_wp2_with (go_at_call 52; refine (IN _ _).mono ?_; rintro e w' ⟨rfl, rfl⟩)
      go_ret
      exact ⟨rfl, rfl⟩
    · rw [if_neg h2]
      go_enter Try.func41, Try.ntmps41
      go_wp2_with (go_at_call 52; refine (IN _ _).mono ?_; rintro e w' ⟨rfl, rfl⟩)
      go_ret
      exact ⟨rfl, rfl⟩
set_option maxHeartbeats 1000000 in
theorem orI_any (blk : Nat) (a b : Int) (W : World) (h0 : W.cell? ⟨blk, 0, none⟩ = some (.int .i64 a)) (h1 : W.cell? ⟨blk, 1, none⟩ = some (.int .i64 b)) :
    Calls Try.prog 40 #[.slice (some ⟨blk, 0, none⟩) 2 2] W fun e w' => e = .returned (.int .i64 (if a != 0 then a else b)) ∧ w' = W := by
  have h : CellsAt W (some ⟨blk, 0, none⟩) (2 * 1) (icells [a, b]) := by
    refine ⟨rfl, fun _ => ⟨blk, 0, rfl, fun k hk => ?_⟩⟩
    have : k = 0 ∨ k = 1 := by omega
    rcases this with rfl | rfl
    · exact h0
    · exact h1
  clear h0 h1
  have HV : ∀ k, k < 2 → Hid ((([a, b].getD k 0 != 0) = true → (0 < k → a = 0) → [a, b].getD k 0 = if a != 0 then a else b) ∧ (([a, b].getD k 0 != 0) = false → (0 < k → a = 0) → (0 < k + 1 → a = 0))) := by
    intro k hk
    have : k = 0 ∨ k = 1 := by omega
    rcases this with rfl | rfl
    · refine ⟨fun e _ => ?_, fun e _ _ => ?_⟩
      · simp only [List.getD_cons_zero] at *; rw [if_pos e]
      · simpa using e
    · refine ⟨fun e z => ?_, fun e z _ => z (by omega)⟩
      have := z (by omega)
      subst this
      simp
  have HW : ([a, b].getD 1 0 != 0) = false → (0 < 1 → a = 0) → 0 = if a != 0 then a else b := by
    intro e z
    have := z (by omega)
    subst this
    have e3 : b = 0 := by simpa using e
    simp [e3]
  generalize (if a != 0 then a else b) = r at *
  go_enter Try.func40, Try.ntmps40
  go_wp2
  go_loopw [8] (fun i wr => ∃ k : Nat, k ≤ 2 ∧ i = .int .i64 k ∧ wr = W ∧ Hid ((0 < k → a = 0) ∧ (2 ≤ k → (0 : Int) = r))) (fun i _ => 2 - (intOf i).toNat)
  case atStart => exact ⟨0, by omega, rfl, rfl, hid ⟨fun h => by omega, fun h => by omega⟩⟩
  case round =>
    obtain ⟨k, hk, rfl, rfl, hz⟩ := hrel
    by_cases hlt : k < 2
    · obtain ⟨b', o', e, hc⟩ := h.int hlt
      cases e
      rw [Nat.zero_add] at hc
      have hbl := lt_of_cell hc
      replace HV := HV k hlt
      have HW2 : Hid (k + 1 = 2 → ([a, b].getD k 0 != 0) = false → 0 = r) := hid fun ek ec => by
        obtain rfl : k = 1 := by omega
        exact HW ec hz.out.1
      clear HW
      generalize [a, b].getD k 0 = c at *
      by_cases hc0 : c = 0
      · have e1 : (c != 0) = false := by simpa using hc0
        have HR : Hid ((0 < k + 1 → a = 0) ∧ (2 ≤ k + 1 → (0 : Int) = r)) := hid ⟨HV.out.2 e1 hz.out.1, fun h => HW2.out (by omega) e1⟩
        clear hc0 HV HW2 hz h
        go_wp2
        go_roundw
        case rel => exact ⟨k + 1, by omega, by go_num, trivial, HR⟩
        case measure => simp [intOf]; omega
      · have e1 : (c != 0) = true := by simpa using hc0
        have HR : Hid (c = r) := hid (HV.out.1 e1 hz.out.1)
        clear hc0 HV HW2 hz h
        go_wp2
        go_ret
        rw [← HR.out]
        exact ⟨rfl, rfl⟩
    · obtain rfl : k = 2 := by omega
      have HR : Hid ((0 : Int) = r) := hid (hz.out.2 (by omega))
      clear hz h HV HW
      go_wp2
      go_ret
      rw [← HR.out]
      exact ⟨rfl, rfl⟩

theorem drew_row2 (A : World) (v0 v1 : Value) (t : TypeId) (n : Nat) (hn : A.heap.size = n) : (A.alloc (.cells #[v0, v1] t)).drew.cell? ⟨n, 0, none⟩ = some v0 ∧ (A.alloc (.cells #[v0, v1] t)).drew.cell? ⟨n, 1, none⟩ = some v1 := by
  subst hn
  obtain ⟨s0, s1, _, _⟩ := row2 (heap_alloc_new A (.cells #[v0, v1] t))
  exact ⟨s0, s1⟩
theorem drew_below (A : World) (o : Obj) : Below A.drew.heap.size A.drew (A.alloc o).drew := by
  have := (Below.refl A.heap.size A).alloc (Nat.le_refl _) o
  exact ⟨this.1, this.2, this.3, this.4, this.5⟩
def encE (x : Ch.Hold) : List Value := [.int .i64 x.t, .int .i64 x.m]
theorem ltE_of (x y : Ch.Hold) : ltOf cfE x y = Ch.ltE x y := by
  unfold ltOf cfE cfI Ch.ltE
  by_cases h1 : x.t < y.t
  · simp [h1]
  · by_cases h2 : y.t < x.t
    · have h3 : ¬ x.t = y.t := by omega
      simp [h1, h2, h3]
    · have h3 : x.t = y.t := by omega
      by_cases h4 : x.m < y.m
      · simp [h3, h4]
      · by_cases h5 : y.m < x.m <;> simp [h3, h4, h5]
theorem swoE : SWO (ltOf cfE) where
  irrefl x := by rw [ltE_of]; exact Ch.ltE_irrefl x
  trans x y z h1 h2 := by rw [ltE_of] at *; exact Ch.ltE_trans h1 h2
  ntrans x y z h1 h2 := by
    rw [ltE_of] at *
    rw [Bool.eq_false_iff, ne_eq, Ch.ltE_iff] at *
    omega
theorem flat_hcells (xs : List Ch.Hold) : (flatK encE 2 xs.toArray).toList = hcells xs := by
  apply List.ext_getElem?
  intro i
  by_cases hi : i < xs.length * 2
  · have h1 : i / 2 < xs.length := by omega
    obtain ⟨a0, a1⟩ := hcells_at xs (i / 2) h1
    have hx : xs.toArray[i / 2]! = xs.getD (i / 2) Ch.Hold.zero := by
      rw [getElem!_pos xs.toArray (i / 2) (by simpa using h1)]
      simp [List.getD, h1]
    have hl : (flatK encE 2 xs.toArray).toList[i]? = some ((encE (xs.getD (i / 2) Ch.Hold.zero))[i % 2]!) := by
      rw [Array.getElem?_toList]
      simp only [flatK, Array.getElem?_map, List.size_toArray]
      rw [Array.getElem?_range, if_pos hi]
      simp only [Option.map_some, hx]
    rw [hl]
    have h2 : i % 2 = 0 ∨ i % 2 = 1 := by omega
    rcases h2 with h2 | h2
    · have e : (hcells xs)[i]? = (hcells xs)[i / 2 * 2]? := by congr 1; omega
      rw [e, a0, h2]; rfl
    · have e : (hcells xs)[i]? = (hcells xs)[i / 2 * 2 + 1]? := by congr 1; omega
      rw [e, a1, h2]; rfl
  · rw [List.getElem?_eq_none (by simp [flatK]; omega), List.getElem?_eq_none (by rw [hcells_len]; omega)]
theorem heap_sortedE {w : World} {g n : Nat} {os : Array Obj} {cur : Array Value} {e : TypeId} {fr : Nat × Nat} (F : Array Value) (hb : w.heap[g]? = some (.cells cur e fr)) :
    (grow (putRow id (Sort.ahead w n) g 0 F) os).heap[g]? = some (.cells (putCells id 0 F cur) e fr) := by
  have hg : g < w.heap.size := (Array.getElem?_eq_some_iff.1 hb).1
  rw [heap_grow_old _ _ (by simpa using hg)]
  simp [putRow, mapBlock, Sort.ahead, Array.getElem?_modify, hb, onCells]
theorem grownBy_sortedE {w : World} {g n : Nat} {os : Array Obj} (F : Array Value) : w.grownBy (grow (putRow id (Sort.ahead w n) g 0 F) os) (some g) := by
  refine ⟨rfl, rfl, rfl, by simp, fun k hk hne => ?_⟩
  rw [heap_grow_old _ _ (by simpa using hk)]
  have : g ≠ k := fun e => hne (by rw [e])
  simp [putRow, mapBlock, Sort.ahead, Array.getElem?_modify, this]
theorem take_putCellsE (cur F : Array Value) (h : F.size ≤ cur.size) : (putCells id 0 F cur).toList.take F.size = F.toList := by
  apply List.ext_getElem?
  intro j
  by_cases hj : j < F.size
  · rw [List.getElem?_take_of_lt hj, Array.getElem?_toList]
    simp [putCells, hj, show j < cur.size by omega]
  · rw [List.getElem?_take_eq_none (by omega), List.getElem?_eq_none (by simp; omega)]
theorem holdsE {w : World} {g : Nat} {cur : Array Value} {e : TypeId} {F : Array Value} (hb : w.heap[g]? = some (.cells cur e (0, 0))) (ht : cur.toList.take F.size = F.toList) : Holds id w g 0 F := by
  intro j hj
  refine ⟨?_, by simp [World.frozen?, hb]⟩
  have h1 : (cur.toList.take F.size)[j]? = F.toList[j]? := by rw [ht]
  rw [List.getElem?_take_of_lt hj] at h1
  simp only [World.cell?, hb, Nat.zero_add]
  simp only [Option.isSome_none, Bool.false_eq_true, if_false]
  rw [← Array.getElem?_toList, h1]
  simp [hj]

end Go.Proofs.Ytmolddlmjojceaa
