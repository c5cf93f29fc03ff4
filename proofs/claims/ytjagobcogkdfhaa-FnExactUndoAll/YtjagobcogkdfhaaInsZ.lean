/- Several texts in one: InsW, InsG. -/
import Derived.Test.YtjagobcogkdfhaaDelW
import Derived.Lib.AppendZerosOnto
import Derived.Lib.Overlaps
import Derived.Laws.Externs
import Derived.Laws.NewBlocks


/- The library's Insert at rows and at leaves: one element. -/
namespace Go.Proofs.Ytjagobcogkdfhaa
open Go.RowKit

theorem owns_capN {w : World} {base : Nat} {e : TypeId} {size g n cap : Nat} {xs : List Value} (h : w.ownsRow base e size (.slice (some ⟨g, 0, none⟩) n cap) n xs) : n ≤ cap ∧ cap ≤ 9223372036854775807 := by
  rcases h.2 with ⟨hv, _⟩ | ⟨g', cp, cur, hv, hb, hh, h1, h2, _⟩
  · simp at hv
  · simp only [Value.slice.injEq] at hv
    obtain ⟨_, _, rfl⟩ := hv
    exact ⟨h1, by unfold maxLen at h2; exact h2⟩
theorem insert_cells (xs ys zs : List Value) (a b s : Nat) (hb : b = a + s) (hy : ys.length = s) (hz : zs.length = s) (hl : b ≤ xs.length) :
    (((xs ++ zs).take b ++ xs.drop a ++ (xs ++ zs).drop (b + (xs.drop a).length)).take a ++ ys ++ ((xs ++ zs).take b ++ xs.drop a ++ (xs ++ zs).drop (b + (xs.drop a).length)).drop (a + ys.length)) = xs.take a ++ ys ++ xs.drop a := by
  have hT : ((xs ++ zs).take b).length = b := by rw [List.length_take, List.length_append]; omega
  have hD : (xs ++ zs).drop (b + (xs.drop a).length) = [] := List.drop_of_length_le (by rw [List.length_append, List.length_drop]; omega)
  rw [hD, List.append_nil, List.take_append_of_le_length (by omega), List.take_take, Nat.min_eq_left (by omega), List.take_append_of_le_length (by omega), hy, ← hb, List.drop_append_of_le_length (by omega), List.drop_of_length_le (by omega), List.nil_append]
theorem owns_extend {w : World} {base : Nat} {e : TypeId} {size g n cap : Nat} {xs : List Value} (h : w.ownsRow base e size (.slice (some ⟨g, 0, none⟩) n cap) n xs) (hc : n + 1 ≤ cap) : ∃ zs : List Value, zs.length = size ∧ w.ownsRow base e size (.slice (some ⟨g, 0, none⟩) (n + 1) cap) (n + 1) (xs ++ zs) := by
  have hx := h.1
  rcases h.2 with ⟨hv, _⟩ | ⟨g', cp, cur, hv, hb, hh, h1, h2, h3, h4⟩
  · simp at hv
  · simp only [Value.slice.injEq, Option.some.injEq, Addr.mk.injEq, and_true, true_and] at hv
    obtain ⟨rfl, rfl⟩ := hv
    have hm : (n + 1) * size ≤ cap * size := Nat.mul_le_mul_right _ hc
    have hm2 : (n + 1) * size = n * size + size := by rw [Nat.add_mul, Nat.one_mul]
    refine ⟨(cur.toList.drop (n * size)).take size, by simp; omega, ?_, .inr ⟨g, cap, cur, rfl, hb, hh, hc, h2, h3, ?_⟩⟩
    · simp; omega
    · rw [hm2, List.take_add, h4]
/-- A copy whose run is known. -/
theorem wp_copyR {P : Program} (w : World) {o : Oper} {a : Act} {K : Act → World → Prop} {Q : Exit → Act → World → Prop} (d s : Operand) (t t' : TypeId)
    (ho : o.op = .call { callee := .builtin .copy, args := #[d, s], argTypes := #[t, t'] }) (v u : Value) (hd : a.eval d = v) (hs : a.eval s = u) {x : Value} {w' : World}
    (hr : (Builtin.copy_ #[t, t'] o.type #[v, u]).run P w = .ok x w') (hK : K (a.put o.dst x) w') : o.wp P a w K Q := by
  unfold Oper.wp
  simp [execOp, ho, resolve, invoke, builtin, hd, hs, hr, Result.andThen]
  exact hK
theorem wpList_copyR {P : Program} (w : World) {ops : Array Oper} {rest : List Oper} {o : Oper} {a : Act} {Q : Exit → Act → World → Prop} (hg : o.guard = none) (d s : Operand) (t t' : TypeId)
    (ho : o.op = .call { callee := .builtin .copy, args := #[d, s], argTypes := #[t, t'] }) (v u : Value) (hd : a.eval d = v) (hs : a.eval s = u) {x : Value} {w' : World}
    (hr : (Builtin.copy_ #[t, t'] o.type #[v, u]).run P w = .ok x w') (hK : wpList P ops Q rest (a.put o.dst x) w') : wpList P ops Q (o :: rest) a w :=
  wpList_plain hg fun _ h => wp_copyR w d s t t' ho v u hd hs hr (h _ _ hK)
theorem step_copyR {P : Program} {ops : Array Oper} {o : Oper} {a : Act} {w : World} {K : Act → World → Prop} {Q : Exit → Act → World → Prop} {E : Prop} (hg : o.guard = none) (d s : Operand) (t t' : TypeId)
    (ho : o.op = .call { callee := .builtin .copy, args := #[d, s], argTypes := #[t, t'] }) (v u : Value) (hd : a.eval d = v) (hs : a.eval s = u) {x : Value} {w' : World}
    (hr : (Builtin.copy_ #[t, t'] o.type #[v, u]).run P w = .ok x w') (hK : K (a.put o.dst x) w') : if Region.wanted o (yielded ops a.tmps) = true then Oper.wp P o a w K Q else E := by
  have hw : Region.wanted o (yielded ops a.tmps) = true := by simp [Region.wanted, hg]
  rw [if_pos hw]
  exact wp_copyR w d s t t' ho v u hd hs hr hK
theorem run_copyS {P : Program} (w : World) (dT sT ty elem : TypeId) (b o dLen dCap : Nat) (a : Addr) (sLen sCap size k : Nat) (cs : List Value) (i : TypeInfo)
    (hu : P.underlying dT = some (.slice elem)) (hi : P.info? elem = some i) (hs : i.size = size) (hk : Nat.min sLen dLen = k) (hn : cs.length = k * size)
    (hsrc : ∀ j v, cs[j]? = some v → w.cell? (a.add j) = some v) (hc : ∀ j, j < cs.length → (w.cell? ⟨b, o + j, none⟩).isSome = true) (hf : ∀ j, j < cs.length → w.frozen? ⟨b, o + j, none⟩ = false) (h1 : ∀ v ∈ cs, v.oneCell' = true) :
    (Builtin.copy_ #[dT, sT] ty #[.slice (some ⟨b, o, none⟩) dLen dCap, .slice (some a) sLen sCap]).run P w = .ok (goInt k) (w.setCells b o cs) := by
  have hl := run_loadCells_list (P := P) w a cs hsrc
  have hst := run_storeCells_cells (P := P) b o cs 0 w (by simpa using hc) (by simpa using hf) h1
  subst hk
  simp [Builtin.copy_, run_underlying hu, Builtin.lenOf, Builtin.firstCells, sizeOf, typeInfo, hi, hs, ← hn, hl, hst]

set_option maxRecDepth 100000 in
set_option maxHeartbeats 4000000 in
/-- Insert behind the last one. -/
theorem insertR_end (B g n cap vb : Nat) (xs ys : List Value) (w : World) (hown : w.ownsRow B 33 3 (.slice (some ⟨g, 0, none⟩) n cap) n xs) (hv : w.heap[vb]? = some (.cells ys.toArray 33 (0, 0))) (hy : ys.length = 3) (h1 : ∀ u ∈ ys, u.oneCell' = true) (hn : n ≤ 1048576) (hB : B ≤ w.heap.size) :
    Calls Try.prog 230 #[.slice (some ⟨g, 0, none⟩) n cap, .int .i64 n, .slice (some ⟨vb, 0, none⟩) 1 1] w fun e w' => ∃ g' c', e = .returned (.slice (some ⟨g', 0, none⟩) (n + 1) c') ∧ w'.ownsRow B 33 3 (.slice (some ⟨g', 0, none⟩) (n + 1) c') (n + 1) (xs ++ ys) ∧ w.grownBy w' (some g) ∧ (g' = g ∨ w.heap.size ≤ g') := by
  obtain ⟨i0, hi, hz0, hz1, hz2⟩ := info_parts Try.info33
  have hcap := owns_capN hown
  have hic : n ≤ cap := hcap.1
  have hnews : ∀ j u, ys[j]? = some u → w.cell? ((⟨vb, 0, none⟩ : Addr).add j) = some u := fun j u hj => World.news_of_block hv j u (by simpa using hj)
  have HY := hid (show ys.length = 1 * 3 by omega)
  have HN := hid hnews
  have hnn : ((n : Int) == (n : Int)) = true := by simp
  have hng : (Value.slice (some ⟨g, 0, none⟩) n cap).ownBlock = some g := rfl
  clear hnews hv hy
  go_enter Try.func230, Try.ntmps230
  go_wp2_with (at_builtin; go_must (refine wpList_append_lies w rfl (.tmp 23) (.tmp 24) 27 rfl B 33 i0 _ 3 24 Try.underlying27 hi hz0 hz1 hz2 rfl (by omega) (.slice (some ⟨g, 0, none⟩) n cap) n xs rfl hown ⟨vb, 0, none⟩ 1 1 ys rfl HY.out HN.out h1 (by omega) (by unfold maxLen; omega) (by omega) hB _ rfl ?_; intro g' c' w' own' gr' at'' lt'; have AT := hid at''; clear at''))
  all_goals
    go_ret
    have at' := AT.out
    rw [hng] at gr'
    refine ⟨g', c', rfl, own', gr', ?_⟩
    rcases at' with h | h
    · simp [Value.ownBlock] at h; exact .inl h.symm
    · exact .inr (by omega)

set_option maxRecDepth 100000 in
set_option maxHeartbeats 8000000 in
/-- Insert ahead of the last one, there is room. -/
theorem insertR_room (B g n cap i vb : Nat) (xs ys : List Value) (w : World) (hown : w.ownsRow B 33 3 (.slice (some ⟨g, 0, none⟩) n cap) n xs) (hv : w.heap[vb]? = some (.cells ys.toArray 33 (0, 0))) (hy : ys.length = 3) (h1 : ∀ u ∈ ys, u.oneCell' = true) (h1x : ∀ u ∈ xs, u.oneCell' = true) (hn : n ≤ 1048576) (hi : i < n) (hroom : n + 1 ≤ cap) (hvb : vb ≠ g) :
    Calls Try.prog 230 #[.slice (some ⟨g, 0, none⟩) n cap, .int .i64 i, .slice (some ⟨vb, 0, none⟩) 1 1] w fun e w' => e = .returned (.slice (some ⟨g, 0, none⟩) (n + 1) cap) ∧ w'.ownsRow B 33 3 (.slice (some ⟨g, 0, none⟩) (n + 1) cap) (n + 1) (xs.take (i * 3) ++ ys ++ xs.drop (i * 3)) ∧ w.grownBy w' (some g) := by
  obtain ⟨i0, hi0, hz0, hz1, hz2⟩ := info_parts Try.info33
  have hcap := owns_capN hown
  have hx := hown.1
  obtain ⟨zs, hzl, oE⟩ := owns_extend hown hroom
  have hnews : ∀ j u, ys[j]? = some u → w.cell? ((⟨vb, 0, none⟩ : Addr).add j) = some u := fun j u hj => World.news_of_block hv j u (by simpa using hj)
  have hnn : ((i : Int) == (n : Int)) = false := by simp; omega
  have hlt : ¬ (cap : Int) < (n : Int) + 1 := by omega
  have hw1 : IntKind.i64.wrap ((n : Int) + 1) = (n : Int) + 1 := IntWalk.i64_in _ ⟨by omega, by omega⟩
  have hw2 : IntKind.i64.wrap ((i : Int) + 1) = (i : Int) + 1 := IntWalk.i64_in _ ⟨by omega, by omega⟩
  have hdl : (xs.drop (i * 3)).length = (n - i) * 3 := by rw [List.length_drop, hx, Nat.sub_mul]
  have oD : w.drew.ownsRow B 33 3 (.slice (some ⟨g, 0, none⟩) (n + 1) cap) (n + 1) (xs ++ zs) := oE
  have hcp1 : ∀ ty dc sc, (Builtin.copy_ #[27, 27] ty #[.slice (some ⟨g, (i + 1) * 3, none⟩) (n - i) dc, .slice (some ⟨g, i * 3, none⟩) (n + 1 - i) sc]).run Try.prog w.drew = .ok (goInt ((n - i : Nat) : Int)) (w.drew.setCells g ((i + 1) * 3) (xs.drop (i * 3))) := fun ty dc sc =>
    run_copyS w.drew _ _ ty 33 g ((i + 1) * 3) (n - i) dc ⟨g, i * 3, none⟩ (n + 1 - i) sc 3 (n - i) (xs.drop (i * 3)) i0 Try.underlying27 hi0 hz1 (by simp only [Nat.min_def]; split <;> omega) hdl
      (fun j v hj => by
        have hjl := (List.getElem?_eq_some_iff.1 hj).1
        rw [Addr.add_lit, oD.cellAt _ (by omega), List.getElem?_append_left (by omega)]
        rw [List.getElem?_drop] at hj
        simpa using hj)
      (fun j hj => by
        obtain ⟨u, hu⟩ := owns_some oD (j := (i + 1) * 3 + j) (by omega)
        rw [hu]; rfl)
      (fun j hj => oD.frozenAt _) (fun v hv => h1x v (List.mem_of_mem_drop hv))
  have ⟨own1, gr1⟩ := owns_setCells (xs.drop (i * 3)) ((i + 1) * 3) _ _ oD (by simp; omega)
  obtain ⟨W1, hW1⟩ : ∃ W1, W1 = w.drew.setCells g ((i + 1) * 3) (xs.drop (i * 3)) := ⟨_, rfl⟩
  rw [← hW1] at own1 gr1 hcp1
  have hcp2 : ∀ ty dc, (Builtin.copy_ #[27, 27] ty #[.slice (some ⟨g, i * 3, none⟩) (n + 1 - i) dc, .slice (some ⟨vb, 0, none⟩) 1 1]).run Try.prog W1 = .ok (goInt ((1 : Nat) : Int)) (W1.setCells g (i * 3) ys) := fun ty dc =>
    run_copyS W1 _ _ ty 33 g (i * 3) (n + 1 - i) dc ⟨vb, 0, none⟩ 1 1 3 1 ys i0 Try.underlying27 hi0 hz1 (by simp only [Nat.min_def]; split <;> omega) (by omega)
      (fun j v hj => by
        have := hnews j v hj
        rw [Addr.add_lit] at this ⊢
        rw [hW1, World.cell?_setCells_out g _ _ _ _ (fun h _ => absurd h hvb)]
        exact this)
      (fun j hj => by
        obtain ⟨u, hu⟩ := owns_some own1 (j := i * 3 + j) (by omega)
        rw [hu]; rfl)
      (fun j hj => own1.frozenAt _) h1
  have ⟨own2, gr2⟩ := owns_setCells ys (i * 3) _ _ own1 (by simp; omega)
  have hov : ∀ lb cb, (callFunc 239 #[.slice (some ⟨vb, 0, none⟩) 1 1, .slice (some ⟨g, (i + 1) * 3, none⟩) lb cb]).run Try.prog w = .ok (.value (.bool false)) w := fun lb cb => by
    have hsz : ∀ w, (Go.sizeOf 33).run Try.prog w = .ok 3 w := fun _ => by kernel_rfl
    rcases hown.2 with ⟨hvv, _⟩ | ⟨g', cp, cur, hvv, _, hh, _, _, h3, _⟩
    · simp at hvv
    simp only [Value.slice.injEq, Option.some.injEq, Addr.mk.injEq, and_true, true_and] at hvv
    obtain ⟨rfl, rfl⟩ := hvv
    rw [run_callFunc_extern Try.func239 (by kernel_rfl) (by kernel_rfl) (by kernel_rfl) (e := Extern.SlicesOverlaps.overlaps #[27, 27] #[4]) (by kernel_rfl),
      Lib.run_overlaps_apart w 27 4 33 Try.underlying27 3 hsz ⟨vb, 0, none⟩ ⟨g, (i + 1) * 3, none⟩ 1 1 lb cb hvb 33 33 ys.toArray.size cur.size (by simp [World.shape?, hv]) (by simp [World.shape?, hh]) (by rw [h3]; omega) (by simp [World.frozen?, hv]) (by simp [World.frozen?, hv])]
    rfl
  have gr1' : w.grownBy W1 (some g) := ⟨gr1.os, gr1.tape, gr1.output, gr1.size, gr1.block⟩
  have hF : (((xs ++ zs).take ((i + 1) * 3) ++ xs.drop (i * 3) ++ (xs ++ zs).drop ((i + 1) * 3 + (xs.drop (i * 3)).length)).take (i * 3) ++ ys ++ ((xs ++ zs).take ((i + 1) * 3) ++ xs.drop (i * 3) ++ (xs ++ zs).drop ((i + 1) * 3 + (xs.drop (i * 3)).length)).drop (i * 3 + ys.length)) = xs.take (i * 3) ++ ys ++ xs.drop (i * 3) := by
    exact insert_cells xs ys zs (i * 3) ((i + 1) * 3) 3 (by omega) hy hzl (by rw [hx]; omega)
  rw [hF] at own2
  have HO := hid own2
  clear hF own2 own1 hdl hx hzl oE oD gr1 hown hv hy hnews hW1
  have hic : i ≤ cap := by omega
  have hb1 : (0 : Int) ≤ (i : Int) + 1 := by omega
  have hin : i ≤ n := by omega
  have htn : ((i : Int) + 1).toNat = i + 1 := by omega
  have hb2 : ¬ (cap = i + 1) := by omega
  have hb3 : (i : Int) ≤ (n : Int) + 1 := by omega
  have hb4 : ¬ (cap = i) := by omega
  go_enter Try.func230, Try.ntmps230
  go_wp2_with (simp only [hov])
  go_region
  go_wp2
  go_ret
  exact ⟨rfl, HO.out, gr_trans gr1' gr2⟩

set_option maxRecDepth 100000 in
set_option maxHeartbeats 4000000 in
/-- Insert behind the last one. -/
theorem insertL_end (B g n cap vb : Nat) (xs ys : List Value) (w : World) (hown : w.ownsRow B 120 1 (.slice (some ⟨g, 0, none⟩) n cap) n xs) (hv : w.heap[vb]? = some (.cells ys.toArray 120 (0, 0))) (hy : ys.length = 1) (h1 : ∀ u ∈ ys, u.oneCell' = true) (hn : n ≤ 1048576) (hB : B ≤ w.heap.size) :
    Calls Try.prog 231 #[.slice (some ⟨g, 0, none⟩) n cap, .int .i64 n, .slice (some ⟨vb, 0, none⟩) 1 1] w fun e w' => ∃ g' c', e = .returned (.slice (some ⟨g', 0, none⟩) (n + 1) c') ∧ w'.ownsRow B 120 1 (.slice (some ⟨g', 0, none⟩) (n + 1) c') (n + 1) (xs ++ ys) ∧ w.grownBy w' (some g) ∧ (g' = g ∨ w.heap.size ≤ g') := by
  obtain ⟨i0, hi, hz0, hz1, hz2⟩ := info_parts Try.info120
  have hcap := owns_capN hown
  have hic : n ≤ cap := hcap.1
  have hnews : ∀ j u, ys[j]? = some u → w.cell? ((⟨vb, 0, none⟩ : Addr).add j) = some u := fun j u hj => World.news_of_block hv j u (by simpa using hj)
  have HY := hid (show ys.length = 1 * 1 by omega)
  have HN := hid hnews
  have hnn : ((n : Int) == (n : Int)) = true := by simp
  have hng : (Value.slice (some ⟨g, 0, none⟩) n cap).ownBlock = some g := rfl
  clear hnews hv hy
  go_enter Try.func231, Try.ntmps231
  go_wp2_with (at_builtin; go_must (refine wpList_append_lies w rfl (.tmp 23) (.tmp 24) 24 rfl B 120 i0 _ 1 24 Try.underlying24 hi hz0 hz1 hz2 rfl (by omega) (.slice (some ⟨g, 0, none⟩) n cap) n xs rfl hown ⟨vb, 0, none⟩ 1 1 ys rfl HY.out HN.out h1 (by omega) (by unfold maxLen; omega) (by omega) hB _ rfl ?_; intro g' c' w' own' gr' at'' lt'; have AT := hid at''; clear at''))
  all_goals
    go_ret
    have at' := AT.out
    rw [hng] at gr'
    refine ⟨g', c', rfl, own', gr', ?_⟩
    rcases at' with h | h
    · simp [Value.ownBlock] at h; exact .inl h.symm
    · exact .inr (by omega)

set_option maxRecDepth 100000 in
set_option maxHeartbeats 8000000 in
/-- Insert ahead of the last one, there is room. -/
theorem insertL_room (B g n cap i vb : Nat) (xs ys : List Value) (w : World) (hown : w.ownsRow B 120 1 (.slice (some ⟨g, 0, none⟩) n cap) n xs) (hv : w.heap[vb]? = some (.cells ys.toArray 120 (0, 0))) (hy : ys.length = 1) (h1 : ∀ u ∈ ys, u.oneCell' = true) (h1x : ∀ u ∈ xs, u.oneCell' = true) (hn : n ≤ 1048576) (hi : i < n) (hroom : n + 1 ≤ cap) (hvb : vb ≠ g) :
    Calls Try.prog 231 #[.slice (some ⟨g, 0, none⟩) n cap, .int .i64 i, .slice (some ⟨vb, 0, none⟩) 1 1] w fun e w' => e = .returned (.slice (some ⟨g, 0, none⟩) (n + 1) cap) ∧ w'.ownsRow B 120 1 (.slice (some ⟨g, 0, none⟩) (n + 1) cap) (n + 1) (xs.take (i * 1) ++ ys ++ xs.drop (i * 1)) ∧ w.grownBy w' (some g) := by
  obtain ⟨i0, hi0, hz0, hz1, hz2⟩ := info_parts Try.info120
  have hcap := owns_capN hown
  have hx := hown.1
  obtain ⟨zs, hzl, oE⟩ := owns_extend hown hroom
  have hnews : ∀ j u, ys[j]? = some u → w.cell? ((⟨vb, 0, none⟩ : Addr).add j) = some u := fun j u hj => World.news_of_block hv j u (by simpa using hj)
  have hnn : ((i : Int) == (n : Int)) = false := by simp; omega
  have hlt : ¬ (cap : Int) < (n : Int) + 1 := by omega
  have hw1 : IntKind.i64.wrap ((n : Int) + 1) = (n : Int) + 1 := IntWalk.i64_in _ ⟨by omega, by omega⟩
  have hw2 : IntKind.i64.wrap ((i : Int) + 1) = (i : Int) + 1 := IntWalk.i64_in _ ⟨by omega, by omega⟩
  have hdl : (xs.drop (i * 1)).length = (n - i) * 1 := by rw [List.length_drop, hx, Nat.sub_mul]
  have oD : w.drew.ownsRow B 120 1 (.slice (some ⟨g, 0, none⟩) (n + 1) cap) (n + 1) (xs ++ zs) := oE
  have hcp1 : ∀ ty dc sc, (Builtin.copy_ #[24, 24] ty #[.slice (some ⟨g, i + 1, none⟩) (n - i) dc, .slice (some ⟨g, i, none⟩) (n + 1 - i) sc]).run Try.prog w.drew = .ok (goInt ((n - i : Nat) : Int)) (w.drew.setCells g (i + 1) (xs.drop (i * 1))) := fun ty dc sc =>
    run_copyS w.drew _ _ ty 120 g (i + 1) (n - i) dc ⟨g, i, none⟩ (n + 1 - i) sc 1 (n - i) (xs.drop (i * 1)) i0 Try.underlying24 hi0 hz1 (by simp only [Nat.min_def]; split <;> omega) hdl
      (fun j v hj => by
        have hjl := (List.getElem?_eq_some_iff.1 hj).1
        rw [Addr.add_lit, oD.cellAt _ (by omega), List.getElem?_append_left (by omega)]
        rw [List.getElem?_drop] at hj
        simpa using hj)
      (fun j hj => by
        obtain ⟨u, hu⟩ := owns_some oD (j := i + 1 + j) (by omega)
        rw [hu]; rfl)
      (fun j hj => oD.frozenAt _) (fun v hv => h1x v (List.mem_of_mem_drop hv))
  have ⟨own1, gr1⟩ := owns_setCells (xs.drop (i * 1)) (i + 1) _ _ oD (by simp; omega)
  obtain ⟨W1, hW1⟩ : ∃ W1, W1 = w.drew.setCells g (i + 1) (xs.drop (i * 1)) := ⟨_, rfl⟩
  rw [← hW1] at own1 gr1 hcp1
  have hcp2 : ∀ ty dc, (Builtin.copy_ #[24, 24] ty #[.slice (some ⟨g, i, none⟩) (n + 1 - i) dc, .slice (some ⟨vb, 0, none⟩) 1 1]).run Try.prog W1 = .ok (goInt ((1 : Nat) : Int)) (W1.setCells g (i) ys) := fun ty dc =>
    run_copyS W1 _ _ ty 120 g (i) (n + 1 - i) dc ⟨vb, 0, none⟩ 1 1 1 1 ys i0 Try.underlying24 hi0 hz1 (by simp only [Nat.min_def]; split <;> omega) (by omega)
      (fun j v hj => by
        have := hnews j v hj
        rw [Addr.add_lit] at this ⊢
        rw [hW1, World.cell?_setCells_out g _ _ _ _ (fun h _ => absurd h hvb)]
        exact this)
      (fun j hj => by
        obtain ⟨u, hu⟩ := owns_some own1 (j := i + j) (by omega)
        rw [hu]; rfl)
      (fun j hj => own1.frozenAt _) h1
  have ⟨own2, gr2⟩ := owns_setCells ys (i) _ _ own1 (by simp; omega)
  have hov : ∀ lb cb, (callFunc 241 #[.slice (some ⟨vb, 0, none⟩) 1 1, .slice (some ⟨g, i + 1, none⟩) lb cb]).run Try.prog w = .ok (.value (.bool false)) w := fun lb cb => by
    have hsz : ∀ w, (Go.sizeOf 120).run Try.prog w = .ok 1 w := fun _ => by kernel_rfl
    rcases hown.2 with ⟨hvv, _⟩ | ⟨g', cp, cur, hvv, _, hh, _, _, h3, _⟩
    · simp at hvv
    simp only [Value.slice.injEq, Option.some.injEq, Addr.mk.injEq, and_true, true_and] at hvv
    obtain ⟨rfl, rfl⟩ := hvv
    rw [run_callFunc_extern Try.func241 (by kernel_rfl) (by kernel_rfl) (by kernel_rfl) (e := Extern.SlicesOverlaps.overlaps #[24, 24] #[4]) (by kernel_rfl),
      Lib.run_overlaps_apart w 24 4 120 Try.underlying24 1 hsz ⟨vb, 0, none⟩ ⟨g, i + 1, none⟩ 1 1 lb cb hvb 120 120 ys.toArray.size cur.size (by simp [World.shape?, hv]) (by simp [World.shape?, hh]) (by rw [h3]; omega) (by simp [World.frozen?, hv]) (by simp [World.frozen?, hv])]
    rfl
  have gr1' : w.grownBy W1 (some g) := ⟨gr1.os, gr1.tape, gr1.output, gr1.size, gr1.block⟩
  have hF : (((xs ++ zs).take (i + 1) ++ xs.drop (i * 1) ++ (xs ++ zs).drop (i + 1 + (xs.drop (i * 1)).length)).take (i) ++ ys ++ ((xs ++ zs).take (i + 1) ++ xs.drop (i * 1) ++ (xs ++ zs).drop (i + 1 + (xs.drop (i * 1)).length)).drop (i + ys.length)) = xs.take (i * 1) ++ ys ++ xs.drop (i * 1) := by
    simp only [Nat.mul_one]
    exact insert_cells xs ys zs (i) (i + 1) 1 (by omega) hy hzl (by rw [hx]; omega)
  rw [hF] at own2
  have HO := hid own2
  clear hF own2 own1 hdl hx hzl oE oD gr1 hown hv hy hnews hW1
  have hic : i ≤ cap := by omega
  have hb1 : (0 : Int) ≤ (i : Int) + 1 := by omega
  have hin : i ≤ n := by omega
  have htn : ((i : Int) + 1).toNat = i + 1 := by omega
  have hb2 : ¬ (cap = i + 1) := by omega
  have hb3 : (i : Int) ≤ (n : Int) + 1 := by omega
  have hb4 : ¬ (cap = i) := by omega
  go_enter Try.func231, Try.ntmps231
  go_wp2_with (simp only [hov])
  go_region
  go_wp2
  go_ret
  exact ⟨rfl, HO.out, gr_trans gr1' gr2⟩

end Go.Proofs.Ytjagobcogkdfhaa


/- The library's Insert at rows and at leaves: one element, where a new array is made; and all ways as one. -/
namespace Go.Proofs.Ytjagobcogkdfhaa
open Go.RowKit

theorem heap_newI {w : World} {o : Obj} {n : Nat} (h : n = w.heap.size) : (w.alloc o).heap[n]? = some o := by
  subst h; exact heap_alloc_new w o
theorem insert_cells2 (xs ys zs : List Value) (a b s : Nat) (hb : b = a + s) (hy : ys.length = s) (hz : a + zs.length = xs.length + s) (hl : b ≤ xs.length) :
    (((xs.take a ++ zs).take a ++ ys ++ (xs.take a ++ zs).drop (a + ys.length)).take b ++ xs.drop a ++ ((xs.take a ++ zs).take a ++ ys ++ (xs.take a ++ zs).drop (a + ys.length)).drop (b + (xs.drop a).length)) = xs.take a ++ ys ++ xs.drop a := by
  have hT : (xs.take a).length = a := by rw [List.length_take]; omega
  have h1 : (xs.take a ++ zs).take a = xs.take a := by rw [List.take_append_of_le_length (by omega), List.take_of_length_le (by omega)]
  have hD : ∀ us : List Value, us.length = xs.length + s → us.drop (b + (xs.drop a).length) = [] := fun us h => List.drop_of_length_le (by rw [List.length_drop]; omega)
  rw [h1, hD _ (by simp only [List.length_append, List.length_drop, hT]; omega), List.append_nil, List.take_append_of_le_length (by rw [List.length_append]; omega), List.take_of_length_le (by rw [List.length_append]; omega)]

theorem grow_oneR (B g n cap i : Nat) (xs : List Value) (w : World) (ty : TypeId) (hown : w.ownsRow B 33 3 (.slice (some ⟨g, 0, none⟩) n cap) n xs) (hn : n ≤ 1048576) (hi : i < n) (hroom : cap < n + 1) (hB : B ≤ w.heap.size) :
    ∃ C W0 zs, (Builtin.append_ #[27, 3] ty #[.slice (some ⟨g, 0, none⟩) i cap, .int .i64 ((n : Int) + 1 - i)]).run Try.prog w = .ok (.slice (some ⟨w.heap.size, 0, none⟩) (n + 1) C) W0 ∧ n + 1 ≤ C ∧ List.length zs = (n + 1 - i) * 3 ∧ W0.ownsRow B 33 3 (.slice (some ⟨w.heap.size, 0, none⟩) (n + 1) C) (n + 1) (xs.take (i * 3) ++ zs) ∧ Below w.heap.size w W0 := by
  obtain ⟨i0, hi0, hz0, hz1, hz2⟩ := info_parts Try.info33
  have hcap := owns_capN hown
  have hx := hown.1
  have hik : i + (n + 1 - i) = n + 1 := by omega
  have hz' : ((n : Int) + 1 - i) = ((n + 1 - i : Nat) : Int) := by omega
  have hlt : (xs.take (i * 3)).length = i * 3 := by rw [List.length_take]; omega
  have hold : (Builtin.firstCells i0.size i (.slice (some ⟨g, 0, none⟩) i cap)).run Try.prog w.drew = .ok (xs.take (i * 3)).toArray w.drew := by
    have oD : w.drew.ownsRow B 33 3 (.slice (some ⟨g, 0, none⟩) n cap) n xs := hown
    have hl := run_loadCells_list (P := Try.prog) w.drew ⟨g, 0, none⟩ (xs.take (i * 3)) (fun j v hj => by
      have hjl := (List.getElem?_eq_some_iff.1 hj).1
      rw [Addr.add_lit, Nat.zero_add, oD.cellAt _ (by omega)]
      rw [List.getElem?_take] at hj
      split at hj
      · exact hj
      · simp at hj)
    rw [hlt] at hl
    simp only [Builtin.firstCells, hz1]
    exact hl
  have hrun := Lib.run_append_grow_zeros (P := Try.prog) w 27 3 ty 33 i0 (.agg #[.int .i64 0, .int .i64 0, .bool false]) .i64 .i64 Try.underlying27 Try.underlying3 hi0 hz0 (some ⟨g, 0, none⟩) i cap (xs.take (i * 3)) hold (n + 1 - i) (by omega) (by omega) (by omega) (by omega) (by rw [hz2]; omega) (by rw [hz2, hik]; exact growslice_fits (by omega) (by omega))
  rw [hik] at hrun
  rw [hz']
  have hge := grownCap_ge w (n + 1) cap 33
  have hle := grownCap_le_maxLen w (n + 1) cap 33 (by unfold maxLen; omega)
  generalize grownCap w (n + 1) cap 33 = C at hrun hge hle
  have hzc : ∀ q, (Builtin.zeroCells (Value.cells (.agg #[.int .i64 0, .int .i64 0, .bool false])) q).size = q * 3 := fun q => by simp [Builtin.zeroCells, Value.cells]
  have hzt : (Builtin.zeroCells (Value.cells (.agg #[.int .i64 0, .int .i64 0, .bool false])) (n + 1 - i)).toList.length = (n + 1 - i) * 3 := by rw [Array.length_toList, hzc]
  refine ⟨C, _, (Builtin.zeroCells (Value.cells (.agg #[.int .i64 0, .int .i64 0, .bool false])) (n + 1 - i)).toList, hrun, hge, hzt, ⟨?_, .inr ⟨w.heap.size, C, _, rfl, hB, heap_newI (by simp), hge, hle, ?_, ?_⟩⟩, ((Below.refl _ _).drew).alloc (by simp) _⟩
  · rw [List.length_append, hlt, hzt]; omega
  · rw [Array.size_append, Array.size_append, hzc, hzc, List.size_toArray, hlt]; omega
  · have e0 : ((xs.take (i * 3)).toArray ++ Builtin.zeroCells (Value.cells (.agg #[.int .i64 0, .int .i64 0, .bool false])) (n + 1 - i) ++ Builtin.zeroCells (Value.cells (.agg #[.int .i64 0, .int .i64 0, .bool false])) (C - (n + 1))).toList = (xs.take (i * 3) ++ (Builtin.zeroCells (Value.cells (.agg #[.int .i64 0, .int .i64 0, .bool false])) (n + 1 - i)).toList) ++ (Builtin.zeroCells (Value.cells (.agg #[.int .i64 0, .int .i64 0, .bool false])) (C - (n + 1))).toList := by simp only [Array.toList_append]
    rw [e0, List.take_append_of_le_length (by rw [List.length_append, hlt, hzt]; omega), List.take_of_length_le (by rw [List.length_append, hlt, hzt]; omega)]

set_option maxRecDepth 100000 in
set_option maxHeartbeats 8000000 in
/-- Insert ahead of the last one, there is no room. -/
theorem insertR_grow (B g n cap i vb : Nat) (xs ys : List Value) (w : World) (hown : w.ownsRow B 33 3 (.slice (some ⟨g, 0, none⟩) n cap) n xs) (hv : w.heap[vb]? = some (.cells ys.toArray 33 (0, 0))) (hy : ys.length = 3) (h1 : ∀ u ∈ ys, u.oneCell' = true) (h1x : ∀ u ∈ xs, u.oneCell' = true) (hn : n ≤ 1048576) (hi : i < n) (hroom : cap < n + 1) (hB : B ≤ w.heap.size) :
    Calls Try.prog 230 #[.slice (some ⟨g, 0, none⟩) n cap, .int .i64 i, .slice (some ⟨vb, 0, none⟩) 1 1] w fun e w' => ∃ C, e = .returned (.slice (some ⟨w.heap.size, 0, none⟩) (n + 1) C) ∧ w'.ownsRow B 33 3 (.slice (some ⟨w.heap.size, 0, none⟩) (n + 1) C) (n + 1) (xs.take (i * 3) ++ ys ++ xs.drop (i * 3)) ∧ Below w.heap.size w w' := by
  obtain ⟨i0, hi0, hz0, hz1, hz2⟩ := info_parts Try.info33
  obtain ⟨C, W0, zs, hrun, hC, hzl, own0, b0⟩ := grow_oneR B g n cap i xs w 27 hown hn hi hroom hB
  have hcap := owns_capN hown
  have hx := hown.1
  have hvl : vb < w.heap.size := (Array.getElem?_eq_some_iff.1 hv).1
  have hgl : g < w.heap.size := by
    rcases hown.2 with ⟨hvv, _⟩ | ⟨g', cp, cur, hvv, _, hh, _⟩
    · simp at hvv
    simp only [Value.slice.injEq, Option.some.injEq, Addr.mk.injEq, and_true, true_and] at hvv
    obtain ⟨rfl, rfl⟩ := hvv
    exact (Array.getElem?_eq_some_iff.1 hh).1
  obtain ⟨G, hG⟩ : ∃ G, G = w.heap.size := ⟨_, rfl⟩
  rw [← hG] at hrun own0 b0 hvl hgl ⊢
  have hnews : ∀ j u, ys[j]? = some u → w.cell? ((⟨vb, 0, none⟩ : Addr).add j) = some u := fun j u hj => World.news_of_block hv j u (by simpa using hj)
  have hnn : ((i : Int) == (n : Int)) = false := by simp; omega
  have hlt : (cap : Int) < (n : Int) + 1 := by omega
  have hw1 : IntKind.i64.wrap ((n : Int) + 1) = (n : Int) + 1 := IntWalk.i64_in _ ⟨by omega, by omega⟩
  have hw2 : IntKind.i64.wrap ((i : Int) + 1) = (i : Int) + 1 := IntWalk.i64_in _ ⟨by omega, by omega⟩
  have hw3 : IntKind.i64.wrap ((n : Int) + 1 - i) = (n : Int) + 1 - i := IntWalk.i64_in _ ⟨by omega, by omega⟩
  have hdl : (xs.drop (i * 3)).length = (n - i) * 3 := by rw [List.length_drop, hx, Nat.sub_mul]
  have hcp1 : ∀ ty dc, (Builtin.copy_ #[27, 27] ty #[.slice (some ⟨G, i * 3, none⟩) (n + 1 - i) dc, .slice (some ⟨vb, 0, none⟩) 1 1]).run Try.prog W0 = .ok (goInt ((1 : Nat) : Int)) (W0.setCells G (i * 3) ys) := fun ty dc =>
    run_copyS W0 _ _ ty 33 G (i * 3) (n + 1 - i) dc ⟨vb, 0, none⟩ 1 1 3 1 ys i0 Try.underlying27 hi0 hz1 (by simp only [Nat.min_def]; split <;> omega) (by omega)
      (fun j v hj => by
        have := hnews j v hj
        rw [Addr.add_lit] at this ⊢
        exact (b0.cell (p := ⟨vb, 0 + j, none⟩) hvl).trans this)
      (fun j hj => by
        obtain ⟨u, hu⟩ := owns_some own0 (j := i * 3 + j) (by omega)
        rw [hu]; rfl)
      (fun j hj => own0.frozenAt _) h1
  have hl0 := own0.1
  have hs0 : G ≤ W0.heap.size := by have := b0.size; omega
  have ⟨own1, gr1⟩ := owns_setCells ys (i * 3) _ _ own0 (by omega)
  obtain ⟨W1, hW1⟩ : ∃ W1, W1 = W0.setCells G (i * 3) ys := ⟨_, rfl⟩
  rw [← hW1] at own1 gr1 hcp1
  have b1 : Below G w W1 := b0.grown gr1 hs0 (fun k hk => by cases hk; exact Nat.le_refl _)
  have oD : W1.drew.ownsRow B 33 3 (.slice (some ⟨G, 0, none⟩) (n + 1) C) (n + 1) _ := own1
  have hcp2 : ∀ ty dc sc, (Builtin.copy_ #[27, 27] ty #[.slice (some ⟨G, (i + 1) * 3, none⟩) (n - i) dc, .slice (some ⟨g, i * 3, none⟩) (n - i) sc]).run Try.prog W1.drew = .ok (goInt ((n - i : Nat) : Int)) (W1.drew.setCells G ((i + 1) * 3) (xs.drop (i * 3))) := fun ty dc sc =>
    run_copyS W1.drew _ _ ty 33 G ((i + 1) * 3) (n - i) dc ⟨g, i * 3, none⟩ (n - i) sc 3 (n - i) (xs.drop (i * 3)) i0 Try.underlying27 hi0 hz1 (by simp only [Nat.min_def]; split <;> omega) hdl
      (fun j v hj => by
        have hjl := (List.getElem?_eq_some_iff.1 hj).1
        rw [List.getElem?_drop] at hj
        rw [Addr.add_lit]
        have hc : w.cell? ⟨g, i * 3 + j, none⟩ = some v := by rw [hown.cellAt _ (by omega)]; simpa using hj
        exact (b1.drew.cell (p := ⟨g, _, none⟩) hgl).trans hc)
      (fun j hj => by
        obtain ⟨u, hu⟩ := owns_some oD (j := (i + 1) * 3 + j) (by omega)
        rw [hu]; rfl)
      (fun j hj => oD.frozenAt _) (fun v hv => h1x v (List.mem_of_mem_drop hv))
  have hl1 := own1.1
  have hs1 : G ≤ W1.drew.heap.size := by have := b1.drew.size; omega
  have ⟨own2, gr2⟩ := owns_setCells (xs.drop (i * 3)) ((i + 1) * 3) _ _ oD (by rw [hl1]; omega)
  have b2 : Below G w (W1.drew.setCells G ((i + 1) * 3) (xs.drop (i * 3))) := b1.drew.grown gr2 hs1 (fun k hk => by cases hk; exact Nat.le_refl _)
  have hF := insert_cells2 xs ys zs (i * 3) ((i + 1) * 3) 3 (by omega) hy (by omega) (by omega)
  rw [hF] at own2
  have HO := hid own2
  have HB := hid b2
  clear hF own2 own1 hdl hx hzl oD gr1 hown hv hy hnews hW1 own0 b0 b1 b2 hl0 hl1 gr2 h1 h1x hs0 hs1
  have hic : i ≤ cap := by omega
  have hiC : i ≤ C := by omega
  have hb1 : (0 : Int) ≤ (i : Int) + 1 := by omega
  have hin : i ≤ n := by omega
  have htn : ((i : Int) + 1).toNat = i + 1 := by omega
  have hb3 : (i : Int) ≤ (n : Int) + 1 := by omega
  have hb4 : ¬ (cap = i) := by omega
  have hb5 : ¬ (C = i) := by omega
  have hb6 : ¬ (C = i + 1) := by omega
  clear hG
  go_enter Try.func230, Try.ntmps230
  go_wp2_with (at_builtin; go_must (refine Lib.wpList_append_run w rfl (.tmp 34) (.tmp 39) 27 3 rfl _ _ rfl rfl _ _ hrun ?_))
  go_region
  go_wp2
  go_ret
  exact ⟨C, rfl, HO.out, HB.out⟩

/-- Insert of one element. -/
theorem insertR_any (B g n cap i vb : Nat) (xs ys : List Value) (w : World) (hown : w.ownsRow B 33 3 (.slice (some ⟨g, 0, none⟩) n cap) n xs) (hv : w.heap[vb]? = some (.cells ys.toArray 33 (0, 0))) (hy : ys.length = 3) (h1 : ∀ u ∈ ys, u.oneCell' = true) (h1x : ∀ u ∈ xs, u.oneCell' = true) (hn : n ≤ 1048576) (hi : i ≤ n) (hB : B ≤ w.heap.size) (hvb : vb ≠ g) :
    Calls Try.prog 230 #[.slice (some ⟨g, 0, none⟩) n cap, .int .i64 i, .slice (some ⟨vb, 0, none⟩) 1 1] w fun e w' => ∃ g' c', e = .returned (.slice (some ⟨g', 0, none⟩) (n + 1) c') ∧ w'.ownsRow B 33 3 (.slice (some ⟨g', 0, none⟩) (n + 1) c') (n + 1) (xs.take (i * 3) ++ ys ++ xs.drop (i * 3)) ∧ w.grownBy w' (some g) ∧ (g' = g ∨ w.heap.size ≤ g') := by
  have hx := hown.1
  rcases Nat.lt_or_ge i n with h | h
  · rcases Nat.lt_or_ge cap (n + 1) with hc | hc
    · refine (insertR_grow B g n cap i vb xs ys w hown hv hy h1 h1x hn h hc hB).mono ?_
      rintro e w' ⟨C, rfl, own, b⟩
      exact ⟨_, C, rfl, own, ⟨b.os, b.tape, b.output, b.size, fun k hk _ => b.block k hk⟩, .inr (Nat.le_refl _)⟩
    · refine (insertR_room B g n cap i vb xs ys w hown hv hy h1 h1x hn h hc hvb).mono ?_
      rintro e w' ⟨rfl, own, gr⟩
      exact ⟨_, _, rfl, own, gr, .inl rfl⟩
  · have e0 : i = n := by omega
    subst e0
    refine (insertR_end B g i cap vb xs ys w hown hv hy h1 hn hB).mono ?_
    rintro e w' ⟨g', c', rfl, own, gr, h⟩
    rw [List.take_of_length_le (by omega), List.drop_of_length_le (by omega), List.append_nil]
    exact ⟨g', c', rfl, own, gr, h⟩

theorem grow_oneL (B g n cap i : Nat) (xs : List Value) (w : World) (ty : TypeId) (hown : w.ownsRow B 120 1 (.slice (some ⟨g, 0, none⟩) n cap) n xs) (hn : n ≤ 1048576) (hi : i < n) (hroom : cap < n + 1) (hB : B ≤ w.heap.size) :
    ∃ C W0 zs, (Builtin.append_ #[24, 3] ty #[.slice (some ⟨g, 0, none⟩) i cap, .int .i64 ((n : Int) + 1 - i)]).run Try.prog w = .ok (.slice (some ⟨w.heap.size, 0, none⟩) (n + 1) C) W0 ∧ n + 1 ≤ C ∧ List.length zs = (n + 1 - i) * 1 ∧ W0.ownsRow B 120 1 (.slice (some ⟨w.heap.size, 0, none⟩) (n + 1) C) (n + 1) (xs.take (i * 1) ++ zs) ∧ Below w.heap.size w W0 := by
  obtain ⟨i0, hi0, hz0, hz1, hz2⟩ := info_parts Try.info120
  have hcap := owns_capN hown
  have hx := hown.1
  have hik : i + (n + 1 - i) = n + 1 := by omega
  have hz' : ((n : Int) + 1 - i) = ((n + 1 - i : Nat) : Int) := by omega
  have hlt : (xs.take (i * 1)).length = i * 1 := by rw [List.length_take]; omega
  have hold : (Builtin.firstCells i0.size i (.slice (some ⟨g, 0, none⟩) i cap)).run Try.prog w.drew = .ok (xs.take (i * 1)).toArray w.drew := by
    have oD : w.drew.ownsRow B 120 1 (.slice (some ⟨g, 0, none⟩) n cap) n xs := hown
    have hl := run_loadCells_list (P := Try.prog) w.drew ⟨g, 0, none⟩ (xs.take (i * 1)) (fun j v hj => by
      have hjl := (List.getElem?_eq_some_iff.1 hj).1
      rw [Addr.add_lit, Nat.zero_add, oD.cellAt _ (by omega)]
      rw [List.getElem?_take] at hj
      split at hj
      · exact hj
      · simp at hj)
    rw [hlt] at hl
    simp only [Builtin.firstCells, hz1]
    exact hl
  have hrun := Lib.run_append_grow_zeros (P := Try.prog) w 24 3 ty 120 i0 (.agg #[.slice none 0 0]) .i64 .i64 Try.underlying24 Try.underlying3 hi0 hz0 (some ⟨g, 0, none⟩) i cap (xs.take (i * 1)) hold (n + 1 - i) (by omega) (by omega) (by omega) (by omega) (by rw [hz2]; omega) (by rw [hz2, hik]; exact growslice_fits (by omega) (by omega))
  rw [hik] at hrun
  rw [hz']
  have hge := grownCap_ge w (n + 1) cap 120
  have hle := grownCap_le_maxLen w (n + 1) cap 120 (by unfold maxLen; omega)
  generalize grownCap w (n + 1) cap 120 = C at hrun hge hle
  have hzc : ∀ q, (Builtin.zeroCells (Value.cells (.agg #[.slice none 0 0])) q).size = q * 1 := fun q => by simp [Builtin.zeroCells, Value.cells]
  have hzt : (Builtin.zeroCells (Value.cells (.agg #[.slice none 0 0])) (n + 1 - i)).toList.length = (n + 1 - i) * 1 := by rw [Array.length_toList, hzc]
  refine ⟨C, _, (Builtin.zeroCells (Value.cells (.agg #[.slice none 0 0])) (n + 1 - i)).toList, hrun, hge, hzt, ⟨?_, .inr ⟨w.heap.size, C, _, rfl, hB, heap_newI (by simp), hge, hle, ?_, ?_⟩⟩, ((Below.refl _ _).drew).alloc (by simp) _⟩
  · rw [List.length_append, hlt, hzt]; omega
  · rw [Array.size_append, Array.size_append, hzc, hzc, List.size_toArray, hlt]; omega
  · have e0 : ((xs.take (i * 1)).toArray ++ Builtin.zeroCells (Value.cells (.agg #[.slice none 0 0])) (n + 1 - i) ++ Builtin.zeroCells (Value.cells (.agg #[.slice none 0 0])) (C - (n + 1))).toList = (xs.take (i * 1) ++ (Builtin.zeroCells (Value.cells (.agg #[.slice none 0 0])) (n + 1 - i)).toList) ++ (Builtin.zeroCells (Value.cells (.agg #[.slice none 0 0])) (C - (n + 1))).toList := by simp only [Array.toList_append]
    rw [e0, List.take_append_of_le_length (by rw [List.length_append, hlt, hzt]; omega), List.take_of_length_le (by rw [List.length_append, hlt, hzt]; omega)]

set_option maxRecDepth 100000 in
set_option maxHeartbeats 8000000 in
/-- Insert ahead of the last one, there is no room. -/
theorem insertL_grow (B g n cap i vb : Nat) (xs ys : List Value) (w : World) (hown : w.ownsRow B 120 1 (.slice (some ⟨g, 0, none⟩) n cap) n xs) (hv : w.heap[vb]? = some (.cells ys.toArray 120 (0, 0))) (hy : ys.length = 1) (h1 : ∀ u ∈ ys, u.oneCell' = true) (h1x : ∀ u ∈ xs, u.oneCell' = true) (hn : n ≤ 1048576) (hi : i < n) (hroom : cap < n + 1) (hB : B ≤ w.heap.size) :
    Calls Try.prog 231 #[.slice (some ⟨g, 0, none⟩) n cap, .int .i64 i, .slice (some ⟨vb, 0, none⟩) 1 1] w fun e w' => ∃ C, e = .returned (.slice (some ⟨w.heap.size, 0, none⟩) (n + 1) C) ∧ w'.ownsRow B 120 1 (.slice (some ⟨w.heap.size, 0, none⟩) (n + 1) C) (n + 1) (xs.take (i * 1) ++ ys ++ xs.drop (i * 1)) ∧ Below w.heap.size w w' := by
  obtain ⟨i0, hi0, hz0, hz1, hz2⟩ := info_parts Try.info120
  obtain ⟨C, W0, zs, hrun, hC, hzl, own0, b0⟩ := grow_oneL B g n cap i xs w 24 hown hn hi hroom hB
  have hcap := owns_capN hown
  have hx := hown.1
  have hvl : vb < w.heap.size := (Array.getElem?_eq_some_iff.1 hv).1
  have hgl : g < w.heap.size := by
    rcases hown.2 with ⟨hvv, _⟩ | ⟨g', cp, cur, hvv, _, hh, _⟩
    · simp at hvv
    simp only [Value.slice.injEq, Option.some.injEq, Addr.mk.injEq, and_true, true_and] at hvv
    obtain ⟨rfl, rfl⟩ := hvv
    exact (Array.getElem?_eq_some_iff.1 hh).1
  obtain ⟨G, hG⟩ : ∃ G, G = w.heap.size := ⟨_, rfl⟩
  rw [← hG] at hrun own0 b0 hvl hgl ⊢
  have hnews : ∀ j u, ys[j]? = some u → w.cell? ((⟨vb, 0, none⟩ : Addr).add j) = some u := fun j u hj => World.news_of_block hv j u (by simpa using hj)
  have hnn : ((i : Int) == (n : Int)) = false := by simp; omega
  have hlt : (cap : Int) < (n : Int) + 1 := by omega
  have hw1 : IntKind.i64.wrap ((n : Int) + 1) = (n : Int) + 1 := IntWalk.i64_in _ ⟨by omega, by omega⟩
  have hw2 : IntKind.i64.wrap ((i : Int) + 1) = (i : Int) + 1 := IntWalk.i64_in _ ⟨by omega, by omega⟩
  have hw3 : IntKind.i64.wrap ((n : Int) + 1 - i) = (n : Int) + 1 - i := IntWalk.i64_in _ ⟨by omega, by omega⟩
  have hdl : (xs.drop (i * 1)).length = (n - i) * 1 := by rw [List.length_drop, hx, Nat.sub_mul]
  have hcp1 : ∀ ty dc, (Builtin.copy_ #[24, 24] ty #[.slice (some ⟨G, i, none⟩) (n + 1 - i) dc, .slice (some ⟨vb, 0, none⟩) 1 1]).run Try.prog W0 = .ok (goInt ((1 : Nat) : Int)) (W0.setCells G (i) ys) := fun ty dc =>
    run_copyS W0 _ _ ty 120 G (i) (n + 1 - i) dc ⟨vb, 0, none⟩ 1 1 1 1 ys i0 Try.underlying24 hi0 hz1 (by simp only [Nat.min_def]; split <;> omega) (by omega)
      (fun j v hj => by
        have := hnews j v hj
        rw [Addr.add_lit] at this ⊢
        exact (b0.cell (p := ⟨vb, 0 + j, none⟩) hvl).trans this)
      (fun j hj => by
        obtain ⟨u, hu⟩ := owns_some own0 (j := i + j) (by omega)
        rw [hu]; rfl)
      (fun j hj => own0.frozenAt _) h1
  have hl0 := own0.1
  have hs0 : G ≤ W0.heap.size := by have := b0.size; omega
  have ⟨own1, gr1⟩ := owns_setCells ys (i) _ _ own0 (by omega)
  obtain ⟨W1, hW1⟩ : ∃ W1, W1 = W0.setCells G (i) ys := ⟨_, rfl⟩
  rw [← hW1] at own1 gr1 hcp1
  have b1 : Below G w W1 := b0.grown gr1 hs0 (fun k hk => by cases hk; exact Nat.le_refl _)
  have oD : W1.drew.ownsRow B 120 1 (.slice (some ⟨G, 0, none⟩) (n + 1) C) (n + 1) _ := own1
  have hcp2 : ∀ ty dc sc, (Builtin.copy_ #[24, 24] ty #[.slice (some ⟨G, i + 1, none⟩) (n - i) dc, .slice (some ⟨g, i, none⟩) (n - i) sc]).run Try.prog W1.drew = .ok (goInt ((n - i : Nat) : Int)) (W1.drew.setCells G (i + 1) (xs.drop (i * 1))) := fun ty dc sc =>
    run_copyS W1.drew _ _ ty 120 G (i + 1) (n - i) dc ⟨g, i, none⟩ (n - i) sc 1 (n - i) (xs.drop (i * 1)) i0 Try.underlying24 hi0 hz1 (by simp only [Nat.min_def]; split <;> omega) hdl
      (fun j v hj => by
        have hjl := (List.getElem?_eq_some_iff.1 hj).1
        rw [List.getElem?_drop] at hj
        rw [Addr.add_lit]
        have hc : w.cell? ⟨g, i + j, none⟩ = some v := by rw [hown.cellAt _ (by omega)]; simpa using hj
        exact (b1.drew.cell (p := ⟨g, _, none⟩) hgl).trans hc)
      (fun j hj => by
        obtain ⟨u, hu⟩ := owns_some oD (j := i + 1 + j) (by omega)
        rw [hu]; rfl)
      (fun j hj => oD.frozenAt _) (fun v hv => h1x v (List.mem_of_mem_drop hv))
  have hl1 := own1.1
  have hs1 : G ≤ W1.drew.heap.size := by have := b1.drew.size; omega
  have ⟨own2, gr2⟩ := owns_setCells (xs.drop (i * 1)) (i + 1) _ _ oD (by rw [hl1]; omega)
  have b2 : Below G w (W1.drew.setCells G (i + 1) (xs.drop (i * 1))) := b1.drew.grown gr2 hs1 (fun k hk => by cases hk; exact Nat.le_refl _)
  have hF := insert_cells2 xs ys zs (i) (i + 1) 1 (by omega) hy (by omega) (by omega)
  simp only [Nat.mul_one] at own2
  rw [hF] at own2
  have HO := hid own2
  have HB := hid b2
  clear hF own2 own1 hdl hx hzl oD gr1 hown hv hy hnews hW1 own0 b0 b1 b2 hl0 hl1 gr2 h1 h1x hs0 hs1
  have hic : i ≤ cap := by omega
  have hiC : i ≤ C := by omega
  have hb1 : (0 : Int) ≤ (i : Int) + 1 := by omega
  have hin : i ≤ n := by omega
  have htn : ((i : Int) + 1).toNat = i + 1 := by omega
  have hb3 : (i : Int) ≤ (n : Int) + 1 := by omega
  have hb4 : ¬ (cap = i) := by omega
  have hb5 : ¬ (C = i) := by omega
  have hb6 : ¬ (C = i + 1) := by omega
  clear hG
  go_enter Try.func231, Try.ntmps231
  go_wp2_with (at_builtin; go_must (refine Lib.wpList_append_run w rfl (.tmp 34) (.tmp 39) 24 3 rfl _ _ rfl rfl _ _ hrun ?_))
  go_region
  go_wp2
  go_ret
  exact ⟨C, rfl, by have := HO.out; simp only [Nat.mul_one]; exact this, by have := HB.out; simp only [Nat.mul_one] at this; exact this⟩

/-- Insert of one element. -/
theorem insertL_any (B g n cap i vb : Nat) (xs ys : List Value) (w : World) (hown : w.ownsRow B 120 1 (.slice (some ⟨g, 0, none⟩) n cap) n xs) (hv : w.heap[vb]? = some (.cells ys.toArray 120 (0, 0))) (hy : ys.length = 1) (h1 : ∀ u ∈ ys, u.oneCell' = true) (h1x : ∀ u ∈ xs, u.oneCell' = true) (hn : n ≤ 1048576) (hi : i ≤ n) (hB : B ≤ w.heap.size) (hvb : vb ≠ g) :
    Calls Try.prog 231 #[.slice (some ⟨g, 0, none⟩) n cap, .int .i64 i, .slice (some ⟨vb, 0, none⟩) 1 1] w fun e w' => ∃ g' c', e = .returned (.slice (some ⟨g', 0, none⟩) (n + 1) c') ∧ w'.ownsRow B 120 1 (.slice (some ⟨g', 0, none⟩) (n + 1) c') (n + 1) (xs.take (i * 1) ++ ys ++ xs.drop (i * 1)) ∧ w.grownBy w' (some g) ∧ (g' = g ∨ w.heap.size ≤ g') := by
  have hx := hown.1
  rcases Nat.lt_or_ge i n with h | h
  · rcases Nat.lt_or_ge cap (n + 1) with hc | hc
    · refine (insertL_grow B g n cap i vb xs ys w hown hv hy h1 h1x hn h hc hB).mono ?_
      rintro e w' ⟨C, rfl, own, b⟩
      exact ⟨_, C, rfl, own, ⟨b.os, b.tape, b.output, b.size, fun k hk _ => b.block k hk⟩, .inr (Nat.le_refl _)⟩
    · refine (insertL_room B g n cap i vb xs ys w hown hv hy h1 h1x hn h hc hvb).mono ?_
      rintro e w' ⟨rfl, own, gr⟩
      exact ⟨_, _, rfl, own, gr, .inl rfl⟩
  · have e0 : i = n := by omega
    subst e0
    refine (insertL_end B g i cap vb xs ys w hown hv hy h1 hn hB).mono ?_
    rintro e w' ⟨g', c', rfl, own, gr, h⟩
    rw [List.take_of_length_le (by omega), List.drop_of_length_le (by omega), List.append_nil]
    exact ⟨g', c', rfl, own, gr, h⟩

end Go.Proofs.Ytjagobcogkdfhaa

