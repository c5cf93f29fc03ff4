
/- The library's Insert at holds and at open locks: one element. -/
import Derived.Test.YtjagobcogkdfhaaLkE
import Derived.Lib.AppendZerosOnto
import Derived.Lib.Overlaps
import Derived.Laws.Externs
import Derived.Laws.NewBlocks
namespace Go.Proofs.Ytjagobcogkdfhaa
open Go.RowKit

theorem owns_capN {w : World} {base : Nat} {e : TypeId} {size g n cap : Nat} {xs : List Value} (h : w.ownsRow base e size (.slice (some ⟨g, 0, none⟩) n cap) n xs) : n ≤ cap ∧ cap ≤ 9223372036854775807 := by
  rcases h.2 with ⟨hv, _⟩ | ⟨g', cp, cur, hv, hb, hh, h1, h2, _⟩
  · simp at hv
  · simp only [Value.slice.injEq] at hv
    obtain ⟨_, _, rfl⟩ := hv
    exact ⟨h1, by unfold maxLen at h2; exact h2⟩
theorem insert_cells (xs ys zs : List Value) (a b s : Nat) (hb : b = a + s) (hy : ys.length = s) (hz : zs.length = s) (hl : b ≤ xs.length) :
    (((xs ++ zs).take b ++ xs.drop a ++ (xs ++ zs).drop (b + (xs.drop a).length)).take a ++ ys ++ ((xs ++ zs).take b ++ xs.drop a ++ (xs ++ zs).drop (b + (xs.drop a).length)).drop (a + ys.length)) = xs.take a ++ ys ++ xs.drop a := by
  have hT : ((xs ++ zs).take b).length = b := by rw [List.length_take, List.length_append]; omega
  have hD : (xs ++ zs).drop (b + (xs.drop a).length) = [] := List.drop_of_length_le (by rw [List.length_append, List.length_drop]; omega)
  rw [hD, List.append_nil, List.take_append_of_le_length (by omega), List.take_take, Nat.min_eq_left (by omega), List.take_append_of_le_length (by omega), hy, ← hb, List.drop_append_of_le_length (by omega), List.drop_of_length_le (by omega), List.nil_append]
theorem owns_extend {w : World} {base : Nat} {e : TypeId} {size g n cap : Nat} {xs : List Value} (h : w.ownsRow base e size (.slice (some ⟨g, 0, none⟩) n cap) n xs) (hc : n + 1 ≤ cap) : ∃ zs : List Value, zs.length = size ∧ w.ownsRow base e size (.slice (some ⟨g, 0, none⟩) (n + 1) cap) (n + 1) (xs ++ zs) := by
  have hx := h.1
  rcases h.2 with ⟨hv, _⟩ | ⟨g', cp, cur, hv, hb, hh, h1, h2, h3, h4⟩
  · simp at hv
  · simp only [Value.slice.injEq, Option.some.injEq, Addr.mk.injEq, and_true, true_and] at hv
    obtain ⟨rfl, rfl⟩ := hv
    have hm : (n + 1) * size ≤ cap * size := Nat.mul_le_mul_right _ hc
    have hm2 : (n + 1) * size = n * size + size := by rw [Nat.add_mul, Nat.one_mul]
    refine ⟨(cur.toList.drop (n * size)).take size, by simp; omega, ?_, .inr ⟨g, cap, cur, rfl, hb, hh, hc, h2, h3, ?_⟩⟩
    · simp; omega
    · rw [hm2, List.take_add, h4]
/-- A copy whose run is known. -/
theorem wp_copyR {P : Program} (w : World) {o : Oper} {a : Act} {K : Act → World → Prop} {Q : Exit → Act → World → Prop} (d s : Operand) (t t' : TypeId)
    (ho : o.op = .call { callee := .builtin .copy, args := #[d, s], argTypes := #[t, t'] }) (v u : Value) (hd : a.eval d = v) (hs : a.eval s = u) {x : Value} {w' : World}
    (hr : (Builtin.copy_ #[t, t'] o.type #[v, u]).run P w = .ok x w') (hK : K (a.put o.dst x) w') : o.wp P a w K Q := by
  unfold Oper.wp
  simp [execOp, ho, resolve, invoke, builtin, hd, hs, hr, Result.andThen]
  exact hK
theorem wpList_copyR {P : Program} (w : World) {ops : Array Oper} {rest : List Oper} {o : Oper} {a : Act} {Q : Exit → Act → World → Prop} (hg : o.guard = none) (d s : Operand) (t t' : TypeId)
    (ho : o.op = .call { callee := .builtin .copy, args := #[d, s], argTypes := #[t, t'] }) (v u : Value) (hd : a.eval d = v) (hs : a.eval s = u) {x : Value} {w' : World}
    (hr : (Builtin.copy_ #[t, t'] o.type #[v, u]).run P w = .ok x w') (hK : wpList P ops Q rest (a.put o.dst x) w') : wpList P ops Q (o :: rest) a w :=
  wpList_plain hg fun _ h => wp_copyR w d s t t' ho v u hd hs hr (h _ _ hK)
theorem step_copyR {P : Program} {ops : Array Oper} {o : Oper} {a : Act} {w : World} {K : Act → World → Prop} {Q : Exit → Act → World → Prop} {E : Prop} (hg : o.guard = none) (d s : Operand) (t t' : TypeId)
    (ho : o.op = .call { callee := .builtin .copy, args := #[d, s], argTypes := #[t, t'] }) (v u : Value) (hd : a.eval d = v) (hs : a.eval s = u) {x : Value} {w' : World}
    (hr : (Builtin.copy_ #[t, t'] o.type #[v, u]).run P w = .ok x w') (hK : K (a.put o.dst x) w') : if Region.wanted o (yielded ops a.tmps) = true then Oper.wp P o a w K Q else E := by
  have hw : Region.wanted o (yielded ops a.tmps) = true := by simp [Region.wanted, hg]
  rw [if_pos hw]
  exact wp_copyR w d s t t' ho v u hd hs hr hK
theorem run_copyS {P : Program} (w : World) (dT sT ty elem : TypeId) (b o dLen dCap : Nat) (a : Addr) (sLen sCap size k : Nat) (cs : List Value) (i : TypeInfo)
    (hu : P.underlying dT = some (.slice elem)) (hi : P.info? elem = some i) (hs : i.size = size) (hk : Nat.min sLen dLen = k) (hn : cs.length = k * size)
    (hsrc : ∀ j v, cs[j]? = some v → w.cell? (a.add j) = some v) (hc : ∀ j, j < cs.length → (w.cell? ⟨b, o + j, none⟩).isSome = true) (hf : ∀ j, j < cs.length → w.frozen? ⟨b, o + j, none⟩ = false) (h1 : ∀ v ∈ cs, v.oneCell' = true) :
    (Builtin.copy_ #[dT, sT] ty #[.slice (some ⟨b, o, none⟩) dLen dCap, .slice (some a) sLen sCap]).run P w = .ok (goInt k) (w.setCells b o cs) := by
  have hl := run_loadCells_list (P := P) w a cs hsrc
  have hst := run_storeCells_cells (P := P) b o cs 0 w (by simpa using hc) (by simpa using hf) h1
  subst hk
  simp [Builtin.copy_, run_underlying hu, Builtin.lenOf, Builtin.firstCells, sizeOf, typeInfo, hi, hs, ← hn, hl, hst]

theorem heap_newI {w : World} {o : Obj} {n : Nat} (h : n = w.heap.size) : (w.alloc o).heap[n]? = some o := by
  subst h; exact heap_alloc_new w o
theorem insert_cells2 (xs ys zs : List Value) (a b s : Nat) (hb : b = a + s) (hy : ys.length = s) (hz : a + zs.length = xs.length + s) (hl : b ≤ xs.length) :
    (((xs.take a ++ zs).take a ++ ys ++ (xs.take a ++ zs).drop (a + ys.length)).take b ++ xs.drop a ++ ((xs.take a ++ zs).take a ++ ys ++ (xs.take a ++ zs).drop (a + ys.length)).drop (b + (xs.drop a).length)) = xs.take a ++ ys ++ xs.drop a := by
  have hT : (xs.take a).length = a := by rw [List.length_take]; omega
  have h1 : (xs.take a ++ zs).take a = xs.take a := by rw [List.take_append_of_le_length (by omega), List.take_of_length_le (by omega)]
  have hD : ∀ us : List Value, us.length = xs.length + s → us.drop (b + (xs.drop a).length) = [] := fun us h => List.drop_of_length_le (by rw [List.length_drop]; omega)
  rw [h1, hD _ (by simp only [List.length_append, List.length_drop, hT]; omega), List.append_nil, List.take_append_of_le_length (by rw [List.length_append]; omega), List.take_of_length_le (by rw [List.length_append]; omega)]


theorem grow_oneH (B g n cap i : Nat) (xs : List Value) (w : World) (ty : TypeId) (hown : w.ownsRow B 131 2 (.slice (some ⟨g, 0, none⟩) n cap) n xs) (hn : n ≤ 1048576) (hi : i < n) (hroom : cap < n + 1) (hB : B ≤ w.heap.size) :
    ∃ C W0 zs, (Builtin.append_ #[177, 3] ty #[.slice (some ⟨g, 0, none⟩) i cap, .int .i64 ((n : Int) + 1 - i)]).run Try.prog w = .ok (.slice (some ⟨w.heap.size, 0, none⟩) (n + 1) C) W0 ∧ n + 1 ≤ C ∧ List.length zs = (n + 1 - i) * 2 ∧ W0.ownsRow B 131 2 (.slice (some ⟨w.heap.size, 0, none⟩) (n + 1) C) (n + 1) (xs.take (i * 2) ++ zs) ∧ Below w.heap.size w W0 := by
  obtain ⟨i0, hi0, hz0, hz1, hz2⟩ := info_parts Try.info131
  have hcap := owns_capN hown
  have hx := hown.1
  have hik : i + (n + 1 - i) = n + 1 := by omega
  have hz' : ((n : Int) + 1 - i) = ((n + 1 - i : Nat) : Int) := by omega
  have hlt : (xs.take (i * 2)).length = i * 2 := by rw [List.length_take]; omega
  have hold : (Builtin.firstCells i0.size i (.slice (some ⟨g, 0, none⟩) i cap)).run Try.prog w.drew = .ok (xs.take (i * 2)).toArray w.drew := by
    have oD : w.drew.ownsRow B 131 2 (.slice (some ⟨g, 0, none⟩) n cap) n xs := hown
    have hl := run_loadCells_list (P := Try.prog) w.drew ⟨g, 0, none⟩ (xs.take (i * 2)) (fun j v hj => by
      have hjl := (List.getElem?_eq_some_iff.1 hj).1
      rw [Addr.add_lit, Nat.zero_add, oD.cellAt _ (by omega)]
      rw [List.getElem?_take] at hj
      split at hj
      · exact hj
      · simp at hj)
    rw [hlt] at hl
    simp only [Builtin.firstCells, hz1]
    exact hl
  have hrun := Lib.run_append_grow_zeros (P := Try.prog) w 177 3 ty 131 i0 (.agg #[.int .i64 0, .int .i64 0]) .i64 .i64 Try.underlying177 Try.underlying3 hi0 hz0 (some ⟨g, 0, none⟩) i cap (xs.take (i * 2)) hold (n + 1 - i) (by omega) (by omega) (by omega) (by omega) (by rw [hz2]; omega) (by rw [hz2, hik]; exact growslice_fits (by omega) (by omega))
  rw [hik] at hrun
  rw [hz']
  have hge := grownCap_ge w (n + 1) cap 131
  have hle := grownCap_le_maxLen w (n + 1) cap 131 (by unfold maxLen; omega)
  generalize grownCap w (n + 1) cap 131 = C at hrun hge hle
  have hzc : ∀ q, (Builtin.zeroCells (Value.cells (.agg #[.int .i64 0, .int .i64 0])) q).size = q * 2 := fun q => by simp [Builtin.zeroCells, Value.cells]
  have hzt : (Builtin.zeroCells (Value.cells (.agg #[.int .i64 0, .int .i64 0])) (n + 1 - i)).toList.length = (n + 1 - i) * 2 := by rw [Array.length_toList, hzc]
  refine ⟨C, _, (Builtin.zeroCells (Value.cells (.agg #[.int .i64 0, .int .i64 0])) (n + 1 - i)).toList, hrun, hge, hzt, ⟨?_, .inr ⟨w.heap.size, C, _, rfl, hB, heap_newI (by simp), hge, hle, ?_, ?_⟩⟩, ((Below.refl _ _).drew).alloc (by simp) _⟩
  · rw [List.length_append, hlt, hzt]; omega
  · rw [Array.size_append, Array.size_append, hzc, hzc, List.size_toArray, hlt]; omega
  · have e0 : ((xs.take (i * 2)).toArray ++ Builtin.zeroCells (Value.cells (.agg #[.int .i64 0, .int .i64 0])) (n + 1 - i) ++ Builtin.zeroCells (Value.cells (.agg #[.int .i64 0, .int .i64 0])) (C - (n + 1))).toList = (xs.take (i * 2) ++ (Builtin.zeroCells (Value.cells (.agg #[.int .i64 0, .int .i64 0])) (n + 1 - i)).toList) ++ (Builtin.zeroCells (Value.cells (.agg #[.int .i64 0, .int .i64 0])) (C - (n + 1))).toList := by simp only [Array.toList_append]
    rw [e0, List.take_append_of_le_length (by rw [List.length_append, hlt, hzt]; omega), List.take_of_length_le (by rw [List.length_append, hlt, hzt]; omega)]

end Go.Proofs.Ytjagobcogkdfhaa
