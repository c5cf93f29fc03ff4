
/- The library's Insert at rows and at leaves: one element, where a new array is made; and all ways as one. -/
import Derived.Test.YtjjbjdjkcckgmaaInsW
namespace Go.Proofs.Ytjjbjdjkcckgmaa
open Go.RowKit

theorem heap_newI {w : World} {o : Obj} {n : Nat} (h : n = w.heap.size) : (w.alloc o).heap[n]? = some o := by
  subst h; exact heap_alloc_new w o
theorem insert_cells2 (xs ys zs : List Value) (a b s : Nat) (hb : b = a + s) (hy : ys.length = s) (hz : a + zs.length = xs.length + s) (hl : b ≤ xs.length) :
    (((xs.take a ++ zs).take a ++ ys ++ (xs.take a ++ zs).drop (a + ys.length)).take b ++ xs.drop a ++ ((xs.take a ++ zs).take a ++ ys ++ (xs.take a ++ zs).drop (a + ys.length)).drop (b + (xs.drop a).length)) = xs.take a ++ ys ++ xs.drop a := by
  have hT : (xs.take a).length = a := by rw [List.length_take]; omega
  have h1 : (xs.take a ++ zs).take a = xs.take a := by rw [List.take_append_of_le_length (by omega), List.take_of_length_le (by omega)]
  have hD : ∀ us : List Value, us.length = xs.length + s → us.drop (b + (xs.drop a).length) = [] := fun us h => List.drop_of_length_le (by rw [List.length_drop]; omega)
  rw [h1, hD _ (by simp only [List.length_append, List.length_drop, hT]; omega), List.append_nil, List.take_append_of_le_length (by rw [List.length_append]; omega), List.take_of_length_le (by rw [List.length_append]; omega)]

theorem grow_oneR (B g n cap i : Nat) (xs : List Value) (w : World) (ty : TypeId) (hown : w.ownsRow B 49 3 (.slice (some ⟨g, 0, none⟩) n cap) n xs) (hn : n ≤ 1048576) (hi : i < n) (hroom : cap < n + 1) (hB : B ≤ w.heap.size) :
    ∃ C W0 zs, (Builtin.append_ #[25, 3] ty #[.slice (some ⟨g, 0, none⟩) i cap, .int .i64 ((n : Int) + 1 - i)]).run Try.prog w = .ok (.slice (some ⟨w.heap.size, 0, none⟩) (n + 1) C) W0 ∧ n + 1 ≤ C ∧ List.length zs = (n + 1 - i) * 3 ∧ W0.ownsRow B 49 3 (.slice (some ⟨w.heap.size, 0, none⟩) (n + 1) C) (n + 1) (xs.take (i * 3) ++ zs) ∧ Below w.heap.size w W0 := by
  obtain ⟨i0, hi0, hz0, hz1, hz2⟩ := info_parts Try.info49
  have hcap := owns_capN hown
  have hx := hown.1
  have hik : i + (n + 1 - i) = n + 1 := by omega
  have hz' : ((n : Int) + 1 - i) = ((n + 1 - i : Nat) : Int) := by omega
  have hlt : (xs.take (i * 3)).length = i * 3 := by rw [List.length_take]; omega
  have hold : (Builtin.firstCells i0.size i (.slice (some ⟨g, 0, none⟩) i cap)).run Try.prog w.drew = .ok (xs.take (i * 3)).toArray w.drew := by
    have oD : w.drew.ownsRow B 49 3 (.slice (some ⟨g, 0, none⟩) n cap) n xs := hown
    have hl := run_loadCells_list (P := Try.prog) w.drew ⟨g, 0, none⟩ (xs.take (i * 3)) (fun j v hj => by
      have hjl := (List.getElem?_eq_some_iff.1 hj).1
      rw [Addr.add_lit, Nat.zero_add, oD.cellAt _ (by omega)]
      rw [List.getElem?_take] at hj
      split at hj
      · exact hj
      · simp at hj)
    rw [hlt] at hl
    simp only [Builtin.firstCells, hz1]
    exact hl
  have hrun := Lib.run_append_grow_zeros (P := Try.prog) w 25 3 ty 49 i0 (.agg #[.int .i64 0, .int .i64 0, .bool false]) .i64 .i64 Try.underlying25 Try.underlying3 hi0 hz0 (some ⟨g, 0, none⟩) i cap (xs.take (i * 3)) hold (n + 1 - i) (by omega) (by omega) (by omega) (by omega) (by rw [hz2]; omega) (by rw [hz2, hik]; exact growslice_fits (by omega) (by omega))
  rw [hik] at hrun
  rw [hz']
  have hge := grownCap_ge w (n + 1) cap 49
  have hle := grownCap_le_maxLen w (n + 1) cap 49 (by unfold maxLen; omega)
  generalize grownCap w (n + 1) cap 49 = C at hrun hge hle
  have hzc : ∀ q, (Builtin.zeroCells (Value.cells (.agg #[.int .i64 0, .int .i64 0, .bool false])) q).size = q * 3 := fun q => by simp [Builtin.zeroCells, Value.cells]
  have hzt : (Builtin.zeroCells (Value.cells (.agg #[.int .i64 0, .int .i64 0, .bool false])) (n + 1 - i)).toList.length = (n + 1 - i) * 3 := by rw [Array.length_toList, hzc]
  refine ⟨C, _, (Builtin.zeroCells (Value.cells (.agg #[.int .i64 0, .int .i64 0, .bool false])) (n + 1 - i)).toList, hrun, hge, hzt, ⟨?_, .inr ⟨w.heap.size, C, _, rfl, hB, heap_newI (by simp), hge, hle, ?_, ?_⟩⟩, ((Below.refl _ _).drew).alloc (by simp) _⟩
  · rw [List.length_append, hlt, hzt]; omega
  · rw [Array.size_append, Array.size_append, hzc, hzc, List.size_toArray, hlt]; omega
  · have e0 : ((xs.take (i * 3)).toArray ++ Builtin.zeroCells (Value.cells (.agg #[.int .i64 0, .int .i64 0, .bool false])) (n + 1 - i) ++ Builtin.zeroCells (Value.cells (.agg #[.int .i64 0, .int .i64 0, .bool false])) (C - (n + 1))).toList = (xs.take (i * 3) ++ (Builtin.zeroCells (Value.cells (.agg #[.int .i64 0, .int .i64 0, .bool false])) (n + 1 - i)).toList) ++ (Builtin.zeroCells (Value.cells (.agg #[.int .i64 0, .int .i64 0, .bool false])) (C - (n + 1))).toList := by simp only [Array.toList_append]
    rw [e0, List.take_append_of_le_length (by rw [List.length_append, hlt, hzt]; omega), List.take_of_length_le (by rw [List.length_append, hlt, hzt]; omega)]

set_option maxRecDepth 100000 in
set_option maxHeartbeats 8000000 in
/-- Insert ahead of the last one, there is no room. -/
theorem insertR_grow (B g n cap i vb : Nat) (xs ys : List Value) (w : World) (hown : w.ownsRow B 49 3 (.slice (some ⟨g, 0, none⟩) n cap) n xs) (hv : w.heap[vb]? = some (.cells ys.toArray 49 (0, 0))) (hy : ys.length = 3) (h1 : ∀ u ∈ ys, u.oneCell' = true) (h1x : ∀ u ∈ xs, u.oneCell' = true) (hn : n ≤ 1048576) (hi : i < n) (hroom : cap < n + 1) (hB : B ≤ w.heap.size) :
    Calls Try.prog 68 #[.slice (some ⟨g, 0, none⟩) n cap, .int .i64 i, .slice (some ⟨vb, 0, none⟩) 1 1] w fun e w' => ∃ C, e = .returned (.slice (some ⟨w.heap.size, 0, none⟩) (n + 1) C) ∧ w'.ownsRow B 49 3 (.slice (some ⟨w.heap.size, 0, none⟩) (n + 1) C) (n + 1) (xs.take (i * 3) ++ ys ++ xs.drop (i * 3)) ∧ Below w.heap.size w w' := by
  obtain ⟨i0, hi0, hz0, hz1, hz2⟩ := info_parts Try.info49
  obtain ⟨C, W0, zs, hrun, hC, hzl, own0, b0⟩ := grow_oneR B g n cap i xs w 25 hown hn hi hroom hB
  have hcap := owns_capN hown
  have hx := hown.1
  have hvl : vb < w.heap.size := (Array.getElem?_eq_some_iff.1 hv).1
  have hgl : g < w.heap.size := by
    rcases hown.2 with ⟨hvv, _⟩ | ⟨g', cp, cur, hvv, _, hh, _⟩
    · simp at hvv
    simp only [Value.slice.injEq, Option.some.injEq, Addr.mk.injEq, and_true, true_and] at hvv
    obtain ⟨rfl, rfl⟩ := hvv
    exact (Array.getElem?_eq_some_iff.1 hh).1
  obtain ⟨G, hG⟩ : ∃ G, G = w.heap.size := ⟨_, rfl⟩
  rw [← hG] at hrun own0 b0 hvl hgl ⊢
  have hnews : ∀ j u, ys[j]? = some u → w.cell? ((⟨vb, 0, none⟩ : Addr).add j) = some u := fun j u hj => World.news_of_block hv j u (by simpa using hj)
  have hnn : ((i : Int) == (n : Int)) = false := by simp; omega
  have hlt : (cap : Int) < (n : Int) + 1 := by omega
  have hw1 : IntKind.i64.wrap ((n : Int) + 1) = (n : Int) + 1 := IntWalk.i64_in _ ⟨by omega, by omega⟩
  have hw2 : IntKind.i64.wrap ((i : Int) + 1) = (i : Int) + 1 := IntWalk.i64_in _ ⟨by omega, by omega⟩
  have hw3 : IntKind.i64.wrap ((n : Int) + 1 - i) = (n : Int) + 1 - i := IntWalk.i64_in _ ⟨by omega, by omega⟩
  have hdl : (xs.drop (i * 3)).length = (n - i) * 3 := by rw [List.length_drop, hx, Nat.sub_mul]
  have hcp1 : ∀ ty dc, (Builtin.copy_ #[25, 25] ty #[.slice (some ⟨G, i * 3, none⟩) (n + 1 - i) dc, .slice (some ⟨vb, 0, none⟩) 1 1]).run Try.prog W0 = .ok (goInt ((1 : Nat) : Int)) (W0.setCells G (i * 3) ys) := fun ty dc =>
    run_copyS W0 _ _ ty 49 G (i * 3) (n + 1 - i) dc ⟨vb, 0, none⟩ 1 1 3 1 ys i0 Try.underlying25 hi0 hz1 (by simp only [Nat.min_def]; split <;> omega) (by omega)
      (fun j v hj => by
        have := hnews j v hj
        rw [Addr.add_lit] at this ⊢
        exact (b0.cell (p := ⟨vb, 0 + j, none⟩) hvl).trans this)
      (fun j hj => by
        obtain ⟨u, hu⟩ := owns_some own0 (j := i * 3 + j) (by omega)
        rw [hu]; rfl)
      (fun j hj => own0.frozenAt _) h1
  have hl0 := own0.1
  have hs0 : G ≤ W0.heap.size := by have := b0.size; omega
  have ⟨own1, gr1⟩ := owns_setCells ys (i * 3) _ _ own0 (by omega)
  obtain ⟨W1, hW1⟩ : ∃ W1, W1 = W0.setCells G (i * 3) ys := ⟨_, rfl⟩
  rw [← hW1] at own1 gr1 hcp1
  have b1 : Below G w W1 := b0.grown gr1 hs0 (fun k hk => by cases hk; exact Nat.le_refl _)
  have oD : W1.drew.ownsRow B 49 3 (.slice (some ⟨G, 0, none⟩) (n + 1) C) (n + 1) _ := own1
  have hcp2 : ∀ ty dc sc, (Builtin.copy_ #[25, 25] ty #[.slice (some ⟨G, (i + 1) * 3, none⟩) (n - i) dc, .slice (some ⟨g, i * 3, none⟩) (n - i) sc]).run Try.prog W1.drew = .ok (goInt ((n - i : Nat) : Int)) (W1.drew.setCells G ((i + 1) * 3) (xs.drop (i * 3))) := fun ty dc sc =>
    run_copyS W1.drew _ _ ty 49 G ((i + 1) * 3) (n - i) dc ⟨g, i * 3, none⟩ (n - i) sc 3 (n - i) (xs.drop (i * 3)) i0 Try.underlying25 hi0 hz1 (by simp only [Nat.min_def]; split <;> omega) hdl
      (fun j v hj => by
        have hjl := (List.getElem?_eq_some_iff.1 hj).1
        rw [List.getElem?_drop] at hj
        rw [Addr.add_lit]
        have hc : w.cell? ⟨g, i * 3 + j, none⟩ = some v := by rw [hown.cellAt _ (by omega)]; simpa using hj
        exact (b1.drew.cell (p := ⟨g, _, none⟩) hgl).trans hc)
      (fun j hj => by
        obtain ⟨u, hu⟩ := owns_some oD (j := (i + 1) * 3 + j) (by omega)
        rw [hu]; rfl)
      (fun j hj => oD.frozenAt _) (fun v hv => h1x v (List.mem_of_mem_drop hv))
  have hl1 := own1.1
  have hs1 : G ≤ W1.drew.heap.size := by have := b1.drew.size; omega
  have ⟨own2, gr2⟩ := owns_setCells (xs.drop (i * 3)) ((i + 1) * 3) _ _ oD (by rw [hl1]; omega)
  have b2 : Below G w (W1.drew.setCells G ((i + 1) * 3) (xs.drop (i * 3))) := b1.drew.grown gr2 hs1 (fun k hk => by cases hk; exact Nat.le_refl _)
  have hF := insert_cells2 xs ys zs (i * 3) ((i + 1) * 3) 3 (by omega) hy (by omega) (by omega)
  rw [hF] at own2
  have HO := hid own2
  have HB := hid b2
  clear hF own2 own1 hdl hx hzl oD gr1 hown hv hy hnews hW1 own0 b0 b1 b2 hl0 hl1 gr2 h1 h1x hs0 hs1
  have hic : i ≤ cap := by omega
  have hiC : i ≤ C := by omega
  have hb1 : (0 : Int) ≤ (i : Int) + 1 := by omega
  have hin : i ≤ n := by omega
  have htn : ((i : Int) + 1).toNat = i + 1 := by omega
  have hb3 : (i : Int) ≤ (n : Int) + 1 := by omega
  have hb4 : ¬ (cap = i) := by omega
  have hb5 : ¬ (C = i) := by omega
  have hb6 : ¬ (C = i + 1) := by omega
  clear hG
  go_enter Try.func68, Try.ntmps68
  go_wp2_with (at_builtin; go_must (refine Lib.wpList_append_run w rfl (.tmp 34) (.tmp 39) 25 3 rfl _ _ rfl rfl _ _ hrun ?_))
  go_region
  go_wp2
  go_ret
  exact ⟨C, rfl, HO.out, HB.out⟩

/-- Insert of one element. -/
theorem insertR_any (B g n cap i vb : Nat) (xs ys : List Value) (w : World) (hown : w.ownsRow B 49 3 (.slice (some ⟨g, 0, none⟩) n cap) n xs) (hv : w.heap[vb]? = some (.cells ys.toArray 49 (0, 0))) (hy : ys.length = 3) (h1 : ∀ u ∈ ys, u.oneCell' = true) (h1x : ∀ u ∈ xs, u.oneCell' = true) (hn : n ≤ 1048576) (hi : i ≤ n) (hB : B ≤ w.heap.size) (hvb : vb ≠ g) :
    Calls Try.prog 68 #[.slice (some ⟨g, 0, none⟩) n cap, .int .i64 i, .slice (some ⟨vb, 0, none⟩) 1 1] w fun e w' => ∃ g' c', e = .returned (.slice (some ⟨g', 0, none⟩) (n + 1) c') ∧ w'.ownsRow B 49 3 (.slice (some ⟨g', 0, none⟩) (n + 1) c') (n + 1) (xs.take (i * 3) ++ ys ++ xs.drop (i * 3)) ∧ w.grownBy w' (some g) ∧ (g' = g ∨ w.heap.size ≤ g') := by
  have hx := hown.1
  rcases Nat.lt_or_ge i n with h | h
  · rcases Nat.lt_or_ge cap (n + 1) with hc | hc
    · refine (insertR_grow B g n cap i vb xs ys w hown hv hy h1 h1x hn h hc hB).mono ?_
      rintro e w' ⟨C, rfl, own, b⟩
      exact ⟨_, C, rfl, own, ⟨b.os, b.tape, b.output, b.size, fun k hk _ => b.block k hk⟩, .inr (Nat.le_refl _)⟩
    · refine (insertR_room B g n cap i vb xs ys w hown hv hy h1 h1x hn h hc hvb).mono ?_
      rintro e w' ⟨rfl, own, gr⟩
      exact ⟨_, _, rfl, own, gr, .inl rfl⟩
  · have e0 : i = n := by omega
    subst e0
    refine (insertR_end B g i cap vb xs ys w hown hv hy h1 hn hB).mono ?_
    rintro e w' ⟨g', c', rfl, own, gr, h⟩
    rw [List.take_of_length_le (by omega), List.drop_of_length_le (by omega), List.append_nil]
    exact ⟨g', c', rfl, own, gr, h⟩

theorem grow_oneL (B g n cap i : Nat) (xs : List Value) (w : World) (ty : TypeId) (hown : w.ownsRow B 65 1 (.slice (some ⟨g, 0, none⟩) n cap) n xs) (hn : n ≤ 1048576) (hi : i < n) (hroom : cap < n + 1) (hB : B ≤ w.heap.size) :
    ∃ C W0 zs, (Builtin.append_ #[26, 3] ty #[.slice (some ⟨g, 0, none⟩) i cap, .int .i64 ((n : Int) + 1 - i)]).run Try.prog w = .ok (.slice (some ⟨w.heap.size, 0, none⟩) (n + 1) C) W0 ∧ n + 1 ≤ C ∧ List.length zs = (n + 1 - i) * 1 ∧ W0.ownsRow B 65 1 (.slice (some ⟨w.heap.size, 0, none⟩) (n + 1) C) (n + 1) (xs.take (i * 1) ++ zs) ∧ Below w.heap.size w W0 := by
  obtain ⟨i0, hi0, hz0, hz1, hz2⟩ := info_parts Try.info65
  have hcap := owns_capN hown
  have hx := hown.1
  have hik : i + (n + 1 - i) = n + 1 := by omega
  have hz' : ((n : Int) + 1 - i) = ((n + 1 - i : Nat) : Int) := by omega
  have hlt : (xs.take (i * 1)).length = i * 1 := by rw [List.length_take]; omega
  have hold : (Builtin.firstCells i0.size i (.slice (some ⟨g, 0, none⟩) i cap)).run Try.prog w.drew = .ok (xs.take (i * 1)).toArray w.drew := by
    have oD : w.drew.ownsRow B 65 1 (.slice (some ⟨g, 0, none⟩) n cap) n xs := hown
    have hl := run_loadCells_list (P := Try.prog) w.drew ⟨g, 0, none⟩ (xs.take (i * 1)) (fun j v hj => by
      have hjl := (List.getElem?_eq_some_iff.1 hj).1
      rw [Addr.add_lit, Nat.zero_add, oD.cellAt _ (by omega)]
      rw [List.getElem?_take] at hj
      split at hj
      · exact hj
      · simp at hj)
    rw [hlt] at hl
    simp only [Builtin.firstCells, hz1]
    exact hl
  have hrun := Lib.run_append_grow_zeros (P := Try.prog) w 26 3 ty 65 i0 (.agg #[.slice none 0 0]) .i64 .i64 Try.underlying26 Try.underlying3 hi0 hz0 (some ⟨g, 0, none⟩) i cap (xs.take (i * 1)) hold (n + 1 - i) (by omega) (by omega) (by omega) (by omega) (by rw [hz2]; omega) (by rw [hz2, hik]; exact growslice_fits (by omega) (by omega))
  rw [hik] at hrun
  rw [hz']
  have hge := grownCap_ge w (n + 1) cap 65
  have hle := grownCap_le_maxLen w (n + 1) cap 65 (by unfold maxLen; omega)
  generalize grownCap w (n + 1) cap 65 = C at hrun hge hle
  have hzc : ∀ q, (Builtin.zeroCells (Value.cells (.agg #[.slice none 0 0])) q).size = q * 1 := fun q => by simp [Builtin.zeroCells, Value.cells]
  have hzt : (Builtin.zeroCells (Value.cells (.agg #[.slice none 0 0])) (n + 1 - i)).toList.length = (n + 1 - i) * 1 := by rw [Array.length_toList, hzc]
  refine ⟨C, _, (Builtin.zeroCells (Value.cells (.agg #[.slice none 0 0])) (n + 1 - i)).toList, hrun, hge, hzt, ⟨?_, .inr ⟨w.heap.size, C, _, rfl, hB, heap_newI (by simp), hge, hle, ?_, ?_⟩⟩, ((Below.refl _ _).drew).alloc (by simp) _⟩
  · rw [List.length_append, hlt, hzt]; omega
  · rw [Array.size_append, Array.size_append, hzc, hzc, List.size_toArray, hlt]; omega
  · have e0 : ((xs.take (i * 1)).toArray ++ Builtin.zeroCells (Value.cells (.agg #[.slice none 0 0])) (n + 1 - i) ++ Builtin.zeroCells (Value.cells (.agg #[.slice none 0 0])) (C - (n + 1))).toList = (xs.take (i * 1) ++ (Builtin.zeroCells (Value.cells (.agg #[.slice none 0 0])) (n + 1 - i)).toList) ++ (Builtin.zeroCells (Value.cells (.agg #[.slice none 0 0])) (C - (n + 1))).toList := by simp only [Array.toList_append]
    rw [e0, List.take_append_of_le_length (by rw [List.length_append, hlt, hzt]; omega), List.take_of_length_le (by rw [List.length_append, hlt, hzt]; omega)]

set_option maxRecDepth 100000 in
set_option maxHeartbeats 8000000 in
/-- Insert ahead of the last one, there is no room. -/
theorem insertL_grow (B g n cap i vb : Nat) (xs ys : List Value) (w : World) (hown : w.ownsRow B 65 1 (.slice (some ⟨g, 0, none⟩) n cap) n xs) (hv : w.heap[vb]? = some (.cells ys.toArray 65 (0, 0))) (hy : ys.length = 1) (h1 : ∀ u ∈ ys, u.oneCell' = true) (h1x : ∀ u ∈ xs, u.oneCell' = true) (hn : n ≤ 1048576) (hi : i < n) (hroom : cap < n + 1) (hB : B ≤ w.heap.size) :
    Calls Try.prog 69 #[.slice (some ⟨g, 0, none⟩) n cap, .int .i64 i, .slice (some ⟨vb, 0, none⟩) 1 1] w fun e w' => ∃ C, e = .returned (.slice (some ⟨w.heap.size, 0, none⟩) (n + 1) C) ∧ w'.ownsRow B 65 1 (.slice (some ⟨w.heap.size, 0, none⟩) (n + 1) C) (n + 1) (xs.take (i * 1) ++ ys ++ xs.drop (i * 1)) ∧ Below w.heap.size w w' := by
  obtain ⟨i0, hi0, hz0, hz1, hz2⟩ := info_parts Try.info65
  obtain ⟨C, W0, zs, hrun, hC, hzl, own0, b0⟩ := grow_oneL B g n cap i xs w 26 hown hn hi hroom hB
  have hcap := owns_capN hown
  have hx := hown.1
  have hvl : vb < w.heap.size := (Array.getElem?_eq_some_iff.1 hv).1
  have hgl : g < w.heap.size := by
    rcases hown.2 with ⟨hvv, _⟩ | ⟨g', cp, cur, hvv, _, hh, _⟩
    · simp at hvv
    simp only [Value.slice.injEq, Option.some.injEq, Addr.mk.injEq, and_true, true_and] at hvv
    obtain ⟨rfl, rfl⟩ := hvv
    exact (Array.getElem?_eq_some_iff.1 hh).1
  obtain ⟨G, hG⟩ : ∃ G, G = w.heap.size := ⟨_, rfl⟩
  rw [← hG] at hrun own0 b0 hvl hgl ⊢
  have hnews : ∀ j u, ys[j]? = some u → w.cell? ((⟨vb, 0, none⟩ : Addr).add j) = some u := fun j u hj => World.news_of_block hv j u (by simpa using hj)
  have hnn : ((i : Int) == (n : Int)) = false := by simp; omega
  have hlt : (cap : Int) < (n : Int) + 1 := by omega
  have hw1 : IntKind.i64.wrap ((n : Int) + 1) = (n : Int) + 1 := IntWalk.i64_in _ ⟨by omega, by omega⟩
  have hw2 : IntKind.i64.wrap ((i : Int) + 1) = (i : Int) + 1 := IntWalk.i64_in _ ⟨by omega, by omega⟩
  have hw3 : IntKind.i64.wrap ((n : Int) + 1 - i) = (n : Int) + 1 - i := IntWalk.i64_in _ ⟨by omega, by omega⟩
  have hdl : (xs.drop (i * 1)).length = (n - i) * 1 := by rw [List.length_drop, hx, Nat.sub_mul]
  have hcp1 : ∀ ty dc, (Builtin.copy_ #[26, 26] ty #[.slice (some ⟨G, i, none⟩) (n + 1 - i) dc, .slice (some ⟨vb, 0, none⟩) 1 1]).run Try.prog W0 = .ok (goInt ((1 : Nat) : Int)) (W0.setCells G (i) ys) := fun ty dc =>
    run_copyS W0 _ _ ty 65 G (i) (n + 1 - i) dc ⟨vb, 0, none⟩ 1 1 1 1 ys i0 Try.underlying26 hi0 hz1 (by simp only [Nat.min_def]; split <;> omega) (by omega)
      (fun j v hj => by
        have := hnews j v hj
        rw [Addr.add_lit] at this ⊢
        exact (b0.cell (p := ⟨vb, 0 + j, none⟩) hvl).trans this)
      (fun j hj => by
        obtain ⟨u, hu⟩ := owns_some own0 (j := i + j) (by omega)
        rw [hu]; rfl)
      (fun j hj => own0.frozenAt _) h1
  have hl0 := own0.1
  have hs0 : G ≤ W0.heap.size := by have := b0.size; omega
  have ⟨own1, gr1⟩ := owns_setCells ys (i) _ _ own0 (by omega)
  obtain ⟨W1, hW1⟩ : ∃ W1, W1 = W0.setCells G (i) ys := ⟨_, rfl⟩
  rw [← hW1] at own1 gr1 hcp1
  have b1 : Below G w W1 := b0.grown gr1 hs0 (fun k hk => by cases hk; exact Nat.le_refl _)
  have oD : W1.drew.ownsRow B 65 1 (.slice (some ⟨G, 0, none⟩) (n + 1) C) (n + 1) _ := own1
  have hcp2 : ∀ ty dc sc, (Builtin.copy_ #[26, 26] ty #[.slice (some ⟨G, i + 1, none⟩) (n - i) dc, .slice (some ⟨g, i, none⟩) (n - i) sc]).run Try.prog W1.drew = .ok (goInt ((n - i : Nat) : Int)) (W1.drew.setCells G (i + 1) (xs.drop (i * 1))) := fun ty dc sc =>
    run_copyS W1.drew _ _ ty 65 G (i + 1) (n - i) dc ⟨g, i, none⟩ (n - i) sc 1 (n - i) (xs.drop (i * 1)) i0 Try.underlying26 hi0 hz1 (by simp only [Nat.min_def]; split <;> omega) hdl
      (fun j v hj => by
        have hjl := (List.getElem?_eq_some_iff.1 hj).1
        rw [List.getElem?_drop] at hj
        rw [Addr.add_lit]
        have hc : w.cell? ⟨g, i + j, none⟩ = some v := by rw [hown.cellAt _ (by omega)]; simpa using hj
        exact (b1.drew.cell (p := ⟨g, _, none⟩) hgl).trans hc)
      (fun j hj => by
        obtain ⟨u, hu⟩ := owns_some oD (j := i + 1 + j) (by omega)
        rw [hu]; rfl)
      (fun j hj => oD.frozenAt _) (fun v hv => h1x v (List.mem_of_mem_drop hv))
  have hl1 := own1.1
  have hs1 : G ≤ W1.drew.heap.size := by have := b1.drew.size; omega
  have ⟨own2, gr2⟩ := owns_setCells (xs.drop (i * 1)) (i + 1) _ _ oD (by rw [hl1]; omega)
  have b2 : Below G w (W1.drew.setCells G (i + 1) (xs.drop (i * 1))) := b1.drew.grown gr2 hs1 (fun k hk => by cases hk; exact Nat.le_refl _)
  have hF := insert_cells2 xs ys zs (i) (i + 1) 1 (by omega) hy (by omega) (by omega)
  simp only [Nat.mul_one] at own2
  rw [hF] at own2
  have HO := hid own2
  have HB := hid b2
  clear hF own2 own1 hdl hx hzl oD gr1 hown hv hy hnews hW1 own0 b0 b1 b2 hl0 hl1 gr2 h1 h1x hs0 hs1
  have hic : i ≤ cap := by omega
  have hiC : i ≤ C := by omega
  have hb1 : (0 : Int) ≤ (i : Int) + 1 := by omega
  have hin : i ≤ n := by omega
  have htn : ((i : Int) + 1).toNat = i + 1 := by omega
  have hb3 : (i : Int) ≤ (n : Int) + 1 := by omega
  have hb4 : ¬ (cap = i) := by omega
  have hb5 : ¬ (C = i) := by omega
  have hb6 : ¬ (C = i + 1) := by omega
  clear hG
  go_enter Try.func69, Try.ntmps69
  go_wp2_with (at_builtin; go_must (refine Lib.wpList_append_run w rfl (.tmp 34) (.tmp 39) 26 3 rfl _ _ rfl rfl _ _ hrun ?_))
  go_region
  go_wp2
  go_ret
  exact ⟨C, rfl, by have := HO.out; simp only [Nat.mul_one]; exact this, by have := HB.out; simp only [Nat.mul_one] at this; exact this⟩

/-- Insert of one element. -/
theorem insertL_any (B g n cap i vb : Nat) (xs ys : List Value) (w : World) (hown : w.ownsRow B 65 1 (.slice (some ⟨g, 0, none⟩) n cap) n xs) (hv : w.heap[vb]? = some (.cells ys.toArray 65 (0, 0))) (hy : ys.length = 1) (h1 : ∀ u ∈ ys, u.oneCell' = true) (h1x : ∀ u ∈ xs, u.oneCell' = true) (hn : n ≤ 1048576) (hi : i ≤ n) (hB : B ≤ w.heap.size) (hvb : vb ≠ g) :
    Calls Try.prog 69 #[.slice (some ⟨g, 0, none⟩) n cap, .int .i64 i, .slice (some ⟨vb, 0, none⟩) 1 1] w fun e w' => ∃ g' c', e = .returned (.slice (some ⟨g', 0, none⟩) (n + 1) c') ∧ w'.ownsRow B 65 1 (.slice (some ⟨g', 0, none⟩) (n + 1) c') (n + 1) (xs.take (i * 1) ++ ys ++ xs.drop (i * 1)) ∧ w.grownBy w' (some g) ∧ (g' = g ∨ w.heap.size ≤ g') := by
  have hx := hown.1
  rcases Nat.lt_or_ge i n with h | h
  · rcases Nat.lt_or_ge cap (n + 1) with hc | hc
    · refine (insertL_grow B g n cap i vb xs ys w hown hv hy h1 h1x hn h hc hB).mono ?_
      rintro e w' ⟨C, rfl, own, b⟩
      exact ⟨_, C, rfl, own, ⟨b.os, b.tape, b.output, b.size, fun k hk _ => b.block k hk⟩, .inr (Nat.le_refl _)⟩
    · refine (insertL_room B g n cap i vb xs ys w hown hv hy h1 h1x hn h hc hvb).mono ?_
      rintro e w' ⟨rfl, own, gr⟩
      exact ⟨_, _, rfl, own, gr, .inl rfl⟩
  · have e0 : i = n := by omega
    subst e0
    refine (insertL_end B g i cap vb xs ys w hown hv hy h1 hn hB).mono ?_
    rintro e w' ⟨g', c', rfl, own, gr, h⟩
    rw [List.take_of_length_le (by omega), List.drop_of_length_le (by omega), List.append_nil]
    exact ⟨g', c', rfl, own, gr, h⟩

end Go.Proofs.Ytjjbjdjkcckgmaa
