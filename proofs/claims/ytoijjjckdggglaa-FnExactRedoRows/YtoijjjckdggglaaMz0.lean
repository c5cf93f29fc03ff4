/- Several texts in one: MarkL, CopyW, DelW, InsW, InsG, PlaceW, ForI. -/
import Derived.Test.YtoijjjckdggglaaLvL
import Derived.Test.YtoijjjckdggglaaScanW
import Derived.Lib.SliceRun
import Derived.Deep.RegionLaw
import Derived.Laws.IdiomCopy
import Derived.Lib.AppendZerosOnto
import Derived.Lib.Overlaps
import Derived.Laws.Externs
import Derived.Laws.NewBlocks
import Derived.Test.YtoijjjckdggglaaAllI
import Derived.Test.YtoijjjckdggglaaPlaceM
import Derived.Maps.OwnSet
import Derived.Maps.OwnOps
import Derived.Test.YtoijjjckdggglaaForW


/- Marks that a law writes into leaves. -/
namespace Go.Proofs.Ytoijjjckdggglaa
open Go.RowKit

theorem markRowS_own (s : Int) (B n : Nat) (a : Option Addr) (cap : Nat) (rs : List Ch.Row) (w : World) (hs0 : 0 < s) (hs1 : s ≤ 1099511627776) (hown : w.ownsRow B 50 3 (.slice a n cap) n (rcells rs)) (hn : n ≤ 1048579) :
    Calls Try.prog 15 #[.slice a n cap, .int .i64 s] w fun e w' => e = .returned (.int .i64 (s + 3 * n)) ∧ w'.ownsRow B 50 3 (.slice a n cap) n (rcells (rmarks s n)) ∧ w.grownBy w' (Value.slice a n cap).ownBlock := by
  rcases hown.2 with ⟨hv, h0⟩ | ⟨g, cp, cur, hv, _⟩
  · simp only [Value.slice.injEq] at hv
    obtain ⟨rfl, rfl, rfl⟩ := hv
    refine (markRowS_nil s w).mono ?_
    rintro e w1 ⟨rfl, rfl⟩
    exact ⟨by simp, World.ownsRow_nil _ _ _ _, ⟨rfl, rfl, rfl, Nat.le_refl _, fun _ _ _ => rfl⟩⟩
  · simp only [Value.slice.injEq, true_and] at hv
    obtain ⟨rfl, rfl⟩ := hv
    exact markRowS_any s B g n cap rs w hs0 hs1 hown hn

/-- The marks of leaves: each from where the one ahead ends. -/
def Ch.before (ls : List (List Ch.Row)) (k : Nat) : Nat := ((ls.take k).map List.length).sum
def lvMark (ls : List (List Ch.Row)) (k : Nat) : List Ch.Row := rmarks (1 + 3 * (Ch.before ls k : Int)) (ls.getD k []).length
def lvMarks (ls : List (List Ch.Row)) : List (List Ch.Row) := (List.range ls.length).map (lvMark ls)
def lvMarked (ls : List (List Ch.Row)) (k : Nat) : List (List Ch.Row) := (List.range k).map (lvMark ls) ++ ls.drop k
theorem lvMarked_set (ls : List (List Ch.Row)) (k : Nat) (h : k < ls.length) : (lvMarked ls k).set k (lvMark ls k) = lvMarked ls (k + 1) := by
  unfold lvMarked
  rw [Ch.set_mid _ _ _ _ (by simp) h, List.range_succ]
  simp
theorem lvMarked_at (ls : List (List Ch.Row)) (k : Nat) : (lvMarked ls k).getD k [] = ls.getD k [] := by
  unfold lvMarked
  rw [List.getD, List.getElem?_append_right (by simp)]
  simp [List.getD]
theorem Ch.before_next (ls : List (List Ch.Row)) (k : Nat) (h : k < ls.length) : Ch.before ls (k + 1) = Ch.before ls k + (ls.getD k []).length := Ch.lv_take ls k h
theorem Ch.before_small {ls : List (List Ch.Row)} (hs : Ch.lvSize ls ≤ 1048576) (k : Nat) : Ch.before ls k ≤ 1048576 := by
  have := Ch.lv_le ls k
  unfold Ch.lvSize at hs
  unfold Ch.before
  omega

end Go.Proofs.Ytoijjjckdggglaa


/- Copies of rows and of leaves: the program's cloneLeaves. -/
namespace Go.Proofs.Ytoijjjckdggglaa
open Go.RowKit

end Go.Proofs.Ytoijjjckdggglaa


/- The library's Delete at rows and at leaves: one element. -/
namespace Go.Proofs.Ytoijjjckdggglaa
open Go.RowKit

theorem owns_setCells {base : Nat} {e : TypeId} {size g n cap : Nat} (news : List Value) : ∀ (j : Nat) (xs : List Value) (w : World), w.ownsRow base e size (.slice (some ⟨g, 0, none⟩) n cap) n xs → j + news.length ≤ xs.length →
    (w.setCells g j news).ownsRow base e size (.slice (some ⟨g, 0, none⟩) n cap) n (xs.take j ++ news ++ xs.drop (j + news.length)) ∧ w.grownBy (w.setCells g j news) (some g) := by
  induction news with
  | nil => intro j xs w h _; exact ⟨by simpa [World.setCells] using h, ⟨rfl, rfl, rfl, Nat.le_refl _, fun _ _ _ => rfl⟩⟩
  | cons u news ih =>
    intro j xs w h hj
    simp only [List.length_cons] at hj
    have hs := h.stored j u
    have ⟨h2, h3⟩ := ih (j + 1) _ _ hs.1 (by simp; omega)
    refine ⟨?_, gr_trans hs.2 h3⟩
    have e : (xs.set j u).take (j + 1) ++ news ++ (xs.set j u).drop (j + 1 + news.length) = xs.take j ++ u :: news ++ xs.drop (j + (news.length + 1)) := by
      rw [List.drop_set, if_pos (by omega), Ch.take_snoc _ u j (by simp; omega), List.take_set]
      rw [List.set_eq_of_length_le (by simp; omega)]
      have : (xs.set j u).getD j u = u := by simp [List.getD, show j < xs.length by omega]
      rw [this, show j + 1 + news.length = j + (news.length + 1) by omega]
      simp
    simp only [World.setCells, List.length_cons]
    rw [← e]
    exact h2
theorem owns_shrink {w : World} {base : Nat} {e : TypeId} {size g n cap m : Nat} {xs : List Value} (h : w.ownsRow base e size (.slice (some ⟨g, 0, none⟩) n cap) n xs) (hm : m ≤ n) : w.ownsRow base e size (.slice (some ⟨g, 0, none⟩) m cap) m (xs.take (m * size)) := by
  rcases h.2 with ⟨hv, _⟩ | ⟨g', cp, cur, hv, hb, hh, h1, h2, h3, h4⟩
  · simp at hv
  · simp only [Value.slice.injEq, Option.some.injEq, Addr.mk.injEq, and_true, true_and] at hv
    obtain ⟨rfl, rfl⟩ := hv
    have hle : m * size ≤ n * size := Nat.mul_le_mul_right _ hm
    refine ⟨by rw [List.length_take, h.1]; omega, .inr ⟨g, cap, cur, rfl, hb, hh, by omega, h2, h3, ?_⟩⟩
    rw [← h4, List.take_take, Nat.min_eq_left hle]

theorem clearR (w : World) (ty b o c : Nat) (hc : ∀ j, j < 3 → (w.cell? ⟨b, o + j, none⟩).isSome = true) (hf : ∀ j, j < 3 → w.frozen? ⟨b, o + j, none⟩ = false) :
    (Builtin.clear_ #[27] ty #[.slice (some ⟨b, o, none⟩) 1 c]).run Try.prog w = .ok (.tuple #[]) (w.setCells b o [.int .i64 0, .int .i64 0, .bool false]) := by
  have hv : ∀ W, (zeroValue 50).run Try.prog W = .ok (.agg #[.int .i64 0, .int .i64 0, .bool false]) W := fun _ => by kernel_rfl
  have hzc : (Builtin.zeroCells (Value.cells (.agg #[.int .i64 0, .int .i64 0, .bool false])) 1).toList = [.int .i64 0, .int .i64 0, .bool false] := by kernel_rfl
  have hst := run_storeCells_cells (P := Try.prog) b o [.int .i64 0, .int .i64 0, .bool false] 0 w (by simpa using hc) (by simpa using hf) (by decide)
  simp only [Nat.add_zero] at hst
  simp [Builtin.clear_, run_underlying Try.underlying27, hv, hzc, hst]

end Go.Proofs.Ytoijjjckdggglaa


/- The library's Insert at rows and at leaves: one element. -/
namespace Go.Proofs.Ytoijjjckdggglaa
open Go.RowKit

theorem owns_capN {w : World} {base : Nat} {e : TypeId} {size g n cap : Nat} {xs : List Value} (h : w.ownsRow base e size (.slice (some ⟨g, 0, none⟩) n cap) n xs) : n ≤ cap ∧ cap ≤ 9223372036854775807 := by
  rcases h.2 with ⟨hv, _⟩ | ⟨g', cp, cur, hv, hb, hh, h1, h2, _⟩
  · simp at hv
  · simp only [Value.slice.injEq] at hv
    obtain ⟨_, _, rfl⟩ := hv
    exact ⟨h1, by unfold maxLen at h2; exact h2⟩
theorem insert_cells (xs ys zs : List Value) (a b s : Nat) (hb : b = a + s) (hy : ys.length = s) (hz : zs.length = s) (hl : b ≤ xs.length) :
    (((xs ++ zs).take b ++ xs.drop a ++ (xs ++ zs).drop (b + (xs.drop a).length)).take a ++ ys ++ ((xs ++ zs).take b ++ xs.drop a ++ (xs ++ zs).drop (b + (xs.drop a).length)).drop (a + ys.length)) = xs.take a ++ ys ++ xs.drop a := by
  have hT : ((xs ++ zs).take b).length = b := by rw [List.length_take, List.length_append]; omega
  have hD : (xs ++ zs).drop (b + (xs.drop a).length) = [] := List.drop_of_length_le (by rw [List.length_append, List.length_drop]; omega)
  rw [hD, List.append_nil, List.take_append_of_le_length (by omega), List.take_take, Nat.min_eq_left (by omega), List.take_append_of_le_length (by omega), hy, ← hb, List.drop_append_of_le_length (by omega), List.drop_of_length_le (by omega), List.nil_append]
theorem owns_extend {w : World} {base : Nat} {e : TypeId} {size g n cap : Nat} {xs : List Value} (h : w.ownsRow base e size (.slice (some ⟨g, 0, none⟩) n cap) n xs) (hc : n + 1 ≤ cap) : ∃ zs : List Value, zs.length = size ∧ w.ownsRow base e size (.slice (some ⟨g, 0, none⟩) (n + 1) cap) (n + 1) (xs ++ zs) := by
  have hx := h.1
  rcases h.2 with ⟨hv, _⟩ | ⟨g', cp, cur, hv, hb, hh, h1, h2, h3, h4⟩
  · simp at hv
  · simp only [Value.slice.injEq, Option.some.injEq, Addr.mk.injEq, and_true, true_and] at hv
    obtain ⟨rfl, rfl⟩ := hv
    have hm : (n + 1) * size ≤ cap * size := Nat.mul_le_mul_right _ hc
    have hm2 : (n + 1) * size = n * size + size := by rw [Nat.add_mul, Nat.one_mul]
    refine ⟨(cur.toList.drop (n * size)).take size, by simp; omega, ?_, .inr ⟨g, cap, cur, rfl, hb, hh, hc, h2, h3, ?_⟩⟩
    · simp; omega
    · rw [hm2, List.take_add, h4]
/-- A copy whose run is known. -/
theorem wp_copyR {P : Program} (w : World) {o : Oper} {a : Act} {K : Act → World → Prop} {Q : Exit → Act → World → Prop} (d s : Operand) (t t' : TypeId)
    (ho : o.op = .call { callee := .builtin .copy, args := #[d, s], argTypes := #[t, t'] }) (v u : Value) (hd : a.eval d = v) (hs : a.eval s = u) {x : Value} {w' : World}
    (hr : (Builtin.copy_ #[t, t'] o.type #[v, u]).run P w = .ok x w') (hK : K (a.put o.dst x) w') : o.wp P a w K Q := by
  unfold Oper.wp
  simp [execOp, ho, resolve, invoke, builtin, hd, hs, hr, Result.andThen]
  exact hK
theorem wpList_copyR {P : Program} (w : World) {ops : Array Oper} {rest : List Oper} {o : Oper} {a : Act} {Q : Exit → Act → World → Prop} (hg : o.guard = none) (d s : Operand) (t t' : TypeId)
    (ho : o.op = .call { callee := .builtin .copy, args := #[d, s], argTypes := #[t, t'] }) (v u : Value) (hd : a.eval d = v) (hs : a.eval s = u) {x : Value} {w' : World}
    (hr : (Builtin.copy_ #[t, t'] o.type #[v, u]).run P w = .ok x w') (hK : wpList P ops Q rest (a.put o.dst x) w') : wpList P ops Q (o :: rest) a w :=
  wpList_plain hg fun _ h => wp_copyR w d s t t' ho v u hd hs hr (h _ _ hK)
theorem step_copyR {P : Program} {ops : Array Oper} {o : Oper} {a : Act} {w : World} {K : Act → World → Prop} {Q : Exit → Act → World → Prop} {E : Prop} (hg : o.guard = none) (d s : Operand) (t t' : TypeId)
    (ho : o.op = .call { callee := .builtin .copy, args := #[d, s], argTypes := #[t, t'] }) (v u : Value) (hd : a.eval d = v) (hs : a.eval s = u) {x : Value} {w' : World}
    (hr : (Builtin.copy_ #[t, t'] o.type #[v, u]).run P w = .ok x w') (hK : K (a.put o.dst x) w') : if Region.wanted o (yielded ops a.tmps) = true then Oper.wp P o a w K Q else E := by
  have hw : Region.wanted o (yielded ops a.tmps) = true := by simp [Region.wanted, hg]
  rw [if_pos hw]
  exact wp_copyR w d s t t' ho v u hd hs hr hK
theorem run_copyS {P : Program} (w : World) (dT sT ty elem : TypeId) (b o dLen dCap : Nat) (a : Addr) (sLen sCap size k : Nat) (cs : List Value) (i : TypeInfo)
    (hu : P.underlying dT = some (.slice elem)) (hi : P.info? elem = some i) (hs : i.size = size) (hk : Nat.min sLen dLen = k) (hn : cs.length = k * size)
    (hsrc : ∀ j v, cs[j]? = some v → w.cell? (a.add j) = some v) (hc : ∀ j, j < cs.length → (w.cell? ⟨b, o + j, none⟩).isSome = true) (hf : ∀ j, j < cs.length → w.frozen? ⟨b, o + j, none⟩ = false) (h1 : ∀ v ∈ cs, v.oneCell' = true) :
    (Builtin.copy_ #[dT, sT] ty #[.slice (some ⟨b, o, none⟩) dLen dCap, .slice (some a) sLen sCap]).run P w = .ok (goInt k) (w.setCells b o cs) := by
  have hl := run_loadCells_list (P := P) w a cs hsrc
  have hst := run_storeCells_cells (P := P) b o cs 0 w (by simpa using hc) (by simpa using hf) h1
  subst hk
  simp [Builtin.copy_, run_underlying hu, Builtin.lenOf, Builtin.firstCells, sizeOf, typeInfo, hi, hs, ← hn, hl, hst]

end Go.Proofs.Ytoijjjckdggglaa


/- The library's Insert at rows and at leaves: one element, where a new array is made; and all ways as one. -/
namespace Go.Proofs.Ytoijjjckdggglaa
open Go.RowKit

theorem heap_newI {w : World} {o : Obj} {n : Nat} (h : n = w.heap.size) : (w.alloc o).heap[n]? = some o := by
  subst h; exact heap_alloc_new w o
theorem insert_cells2 (xs ys zs : List Value) (a b s : Nat) (hb : b = a + s) (hy : ys.length = s) (hz : a + zs.length = xs.length + s) (hl : b ≤ xs.length) :
    (((xs.take a ++ zs).take a ++ ys ++ (xs.take a ++ zs).drop (a + ys.length)).take b ++ xs.drop a ++ ((xs.take a ++ zs).take a ++ ys ++ (xs.take a ++ zs).drop (a + ys.length)).drop (b + (xs.drop a).length)) = xs.take a ++ ys ++ xs.drop a := by
  have hT : (xs.take a).length = a := by rw [List.length_take]; omega
  have h1 : (xs.take a ++ zs).take a = xs.take a := by rw [List.take_append_of_le_length (by omega), List.take_of_length_le (by omega)]
  have hD : ∀ us : List Value, us.length = xs.length + s → us.drop (b + (xs.drop a).length) = [] := fun us h => List.drop_of_length_le (by rw [List.length_drop]; omega)
  rw [h1, hD _ (by simp only [List.length_append, List.length_drop, hT]; omega), List.append_nil, List.take_append_of_le_length (by rw [List.length_append]; omega), List.take_of_length_le (by rw [List.length_append]; omega)]

theorem grow_oneR (B g n cap i : Nat) (xs : List Value) (w : World) (ty : TypeId) (hown : w.ownsRow B 50 3 (.slice (some ⟨g, 0, none⟩) n cap) n xs) (hn : n ≤ 1048576) (hi : i < n) (hroom : cap < n + 1) (hB : B ≤ w.heap.size) :
    ∃ C W0 zs, (Builtin.append_ #[27, 3] ty #[.slice (some ⟨g, 0, none⟩) i cap, .int .i64 ((n : Int) + 1 - i)]).run Try.prog w = .ok (.slice (some ⟨w.heap.size, 0, none⟩) (n + 1) C) W0 ∧ n + 1 ≤ C ∧ List.length zs = (n + 1 - i) * 3 ∧ W0.ownsRow B 50 3 (.slice (some ⟨w.heap.size, 0, none⟩) (n + 1) C) (n + 1) (xs.take (i * 3) ++ zs) ∧ Below w.heap.size w W0 := by
  obtain ⟨i0, hi0, hz0, hz1, hz2⟩ := info_parts Try.info50
  have hcap := owns_capN hown
  have hx := hown.1
  have hik : i + (n + 1 - i) = n + 1 := by omega
  have hz' : ((n : Int) + 1 - i) = ((n + 1 - i : Nat) : Int) := by omega
  have hlt : (xs.take (i * 3)).length = i * 3 := by rw [List.length_take]; omega
  have hold : (Builtin.firstCells i0.size i (.slice (some ⟨g, 0, none⟩) i cap)).run Try.prog w.drew = .ok (xs.take (i * 3)).toArray w.drew := by
    have oD : w.drew.ownsRow B 50 3 (.slice (some ⟨g, 0, none⟩) n cap) n xs := hown
    have hl := run_loadCells_list (P := Try.prog) w.drew ⟨g, 0, none⟩ (xs.take (i * 3)) (fun j v hj => by
      have hjl := (List.getElem?_eq_some_iff.1 hj).1
      rw [Addr.add_lit, Nat.zero_add, oD.cellAt _ (by omega)]
      rw [List.getElem?_take] at hj
      split at hj
      · exact hj
      · simp at hj)
    rw [hlt] at hl
    simp only [Builtin.firstCells, hz1]
    exact hl
  have hrun := Lib.run_append_grow_zeros (P := Try.prog) w 27 3 ty 50 i0 (.agg #[.int .i64 0, .int .i64 0, .bool false]) .i64 .i64 Try.underlying27 Try.underlying3 hi0 hz0 (some ⟨g, 0, none⟩) i cap (xs.take (i * 3)) hold (n + 1 - i) (by omega) (by omega) (by omega) (by omega) (by rw [hz2]; omega) (by rw [hz2, hik]; exact growslice_fits (by omega) (by omega))
  rw [hik] at hrun
  rw [hz']
  have hge := grownCap_ge w (n + 1) cap 50
  have hle := grownCap_le_maxLen w (n + 1) cap 50 (by unfold maxLen; omega)
  generalize grownCap w (n + 1) cap 50 = C at hrun hge hle
  have hzc : ∀ q, (Builtin.zeroCells (Value.cells (.agg #[.int .i64 0, .int .i64 0, .bool false])) q).size = q * 3 := fun q => by simp [Builtin.zeroCells, Value.cells]
  have hzt : (Builtin.zeroCells (Value.cells (.agg #[.int .i64 0, .int .i64 0, .bool false])) (n + 1 - i)).toList.length = (n + 1 - i) * 3 := by rw [Array.length_toList, hzc]
  refine ⟨C, _, (Builtin.zeroCells (Value.cells (.agg #[.int .i64 0, .int .i64 0, .bool false])) (n + 1 - i)).toList, hrun, hge, hzt, ⟨?_, .inr ⟨w.heap.size, C, _, rfl, hB, heap_newI (by simp), hge, hle, ?_, ?_⟩⟩, ((Below.refl _ _).drew).alloc (by simp) _⟩
  · rw [List.length_append, hlt, hzt]; omega
  · rw [Array.size_append, Array.size_append, hzc, hzc, List.size_toArray, hlt]; omega
  · have e0 : ((xs.take (i * 3)).toArray ++ Builtin.zeroCells (Value.cells (.agg #[.int .i64 0, .int .i64 0, .bool false])) (n + 1 - i) ++ Builtin.zeroCells (Value.cells (.agg #[.int .i64 0, .int .i64 0, .bool false])) (C - (n + 1))).toList = (xs.take (i * 3) ++ (Builtin.zeroCells (Value.cells (.agg #[.int .i64 0, .int .i64 0, .bool false])) (n + 1 - i)).toList) ++ (Builtin.zeroCells (Value.cells (.agg #[.int .i64 0, .int .i64 0, .bool false])) (C - (n + 1))).toList := by simp only [Array.toList_append]
    rw [e0, List.take_append_of_le_length (by rw [List.length_append, hlt, hzt]; omega), List.take_of_length_le (by rw [List.length_append, hlt, hzt]; omega)]

end Go.Proofs.Ytoijjjckdggglaa


/- The map of places by key. -/
namespace Go.Proofs.Ytoijjjckdggglaa
open Go.RowKit Go.Maps

/-- How a place reads. -/
def plElem (v : Value) : Option (DataW Unit × List MemPlace) :=
  match v with
  | .agg a => match a.toList with
    | [.int .i64 l, .int .i64 t] => some (.agg [.lit (.int .i64 l), .lit (.int .i64 t)], [])
    | _ => none
  | _ => none
def kk (key : Int) : Lit := .int .i64 key
def pl (i j : Nat) : DataW Unit := .agg [.lit (.int .i64 i), .lit (.int .i64 j)]
theorem plElem_mk (l t : Int) : plElem (.agg #[.int .i64 l, .int .i64 t]) = some (.agg [.lit (.int .i64 l), .lit (.int .i64 t)], []) := rfl
theorem plElem_inv {v : Value} {l t : Int} {ps : List MemPlace} (h : plElem v = some (.agg [.lit (.int .i64 l), .lit (.int .i64 t)], ps)) : v = .agg #[.int .i64 l, .int .i64 t] := by
  unfold plElem at h
  split at h
  · rename_i a
    split at h
    · rename_i l' t' he
      simp at h
      obtain ⟨⟨rfl, rfl⟩, _⟩ := h
      have : a = #[.int .i64 l', .int .i64 t'] := by
        cases a
        simpa using he
      rw [this]
    · simp at h
  · simp at h
theorem Try.keyed : Keyed Try.prog 2 := int_keyed Try.underlying2
theorem kk_key {key : Int} (h0 : 0 ≤ key) (h1 : key ≤ 99) : keyOf Try.prog 2 (.int .i64 key) = some (kk key) := keyOf_int_mk Try.underlying2 (WalkArith.wf_i64 (by omega))
theorem kk_isKey (key : Int) : WideAt.IsKeyLit (kk key) := by unfold kk; simp [WideAt.IsKeyLit]
theorem kk_ne {a b : Int} (h : a ≠ b) : kk a ≠ kk b := by unfold kk; simpa using h

/-- What the map holds ahead of the row m of the leaf k. -/
structure Pl (ls : List (List Ch.Row)) (D : DataW Unit) (k m : Nat) : Prop where
  yes : ∀ i j, (i < k ∨ i = k ∧ j < m) → i < ls.length → j < (ls.getD i []).length → Maps.has D (kk (Ch.keyAt ls i j)) = true ∧ ∀ z, D.atKey (kk (Ch.keyAt ls i j)) z = pl i j
  no : ∀ key, Maps.has D (kk key) = true → ∃ i j, i < ls.length ∧ j < (ls.getD i []).length ∧ Ch.keyAt ls i j = key

theorem Pl.empty (ls : List (List Ch.Row)) : Pl ls (.map []) 0 0 := by
  refine ⟨fun i j h => ?_, fun key h => ?_⟩
  · omega
  · simp [Maps.has] at h
theorem Pl.leaf {ls : List (List Ch.Row)} {D : DataW Unit} {k m : Nat} (h : Pl ls D k m) (hm : (ls.getD k []).length ≤ m) : Pl ls D (k + 1) 0 := by
  refine ⟨fun i j hij hi hj => h.yes i j ?_ hi hj, h.no⟩
  by_cases hik : i = k
  · subst hik; right; exact ⟨rfl, by omega⟩
  · left; omega
theorem Pl.put {ls : List (List Ch.Row)} {D : DataW Unit} {k m : Nat} (h : Pl ls D k m) (hg : Ch.leavesFault ls = 0) (hk : k < ls.length) (hm : m < (ls.getD k []).length) (hD : IsMap D) : Pl ls (D.put (kk (Ch.keyAt ls k m)) (pl k m)) k (m + 1) := by
  refine ⟨fun i j hij hi hj => ?_, fun key hkey => ?_⟩
  · by_cases he : i = k ∧ j = m
    · obtain ⟨rfl, rfl⟩ := he
      exact ⟨has_put_same hD (kk_isKey _) _, fun z => atKey_put_same hD (kk_isKey _) _ z⟩
    · have hne : Ch.keyAt ls i j ≠ Ch.keyAt ls k m := fun e => he (Ch.keys_apart hg hi hj hk hm e)
      have := h.yes i j (by omega) hi hj
      exact ⟨by rw [has_put_other (kk_ne hne)]; exact this.1, fun z => by rw [atKey_put_other (kk_ne hne)]; exact this.2 z⟩
  · by_cases he : key = Ch.keyAt ls k m
    · exact ⟨k, m, hk, hm, he.symm⟩
    · rw [has_put_other (kk_ne he)] at hkey
      exact h.no key hkey

end Go.Proofs.Ytoijjjckdggglaa


/- LeafFor of the program, and the law. -/
namespace Go.Proofs.Ytoijjjckdggglaa
open Go.RowKit

theorem one_key {w : World} {o : Obj} {key : Int} {t : TypeId} : CellsAt ((w.alloc o).alloc (.cells #[.int .i64 key] t)) (some ⟨w.heap.size + 1, 0, none⟩) 1 (kts [key]) := by
  refine ⟨rfl, fun _ => ⟨_, _, rfl, fun i hi => ?_⟩⟩
  obtain rfl : i = 0 := by omega
  rw [show w.heap.size + 1 = (w.alloc o).heap.size by simp]
  exact cell_of_row _ _ _ _ _ _ (heap_alloc_new (w.alloc o) _)

end Go.Proofs.Ytoijjjckdggglaa

