
/- The library's Insert at rows and at leaves: one element. -/
import Derived.Test.YtjjbjdjkcckgmaaDelW
import Derived.Lib.AppendZerosOnto
import Derived.Lib.Overlaps
import Derived.Laws.Externs
import Derived.Laws.NewBlocks
namespace Go.Proofs.Ytjjbjdjkcckgmaa
open Go.RowKit

theorem owns_capN {w : World} {base : Nat} {e : TypeId} {size g n cap : Nat} {xs : List Value} (h : w.ownsRow base e size (.slice (some ⟨g, 0, none⟩) n cap) n xs) : n ≤ cap ∧ cap ≤ 9223372036854775807 := by
  rcases h.2 with ⟨hv, _⟩ | ⟨g', cp, cur, hv, hb, hh, h1, h2, _⟩
  · simp at hv
  · simp only [Value.slice.injEq] at hv
    obtain ⟨_, _, rfl⟩ := hv
    exact ⟨h1, by unfold maxLen at h2; exact h2⟩
theorem insert_cells (xs ys zs : List Value) (a b s : Nat) (hb : b = a + s) (hy : ys.length = s) (hz : zs.length = s) (hl : b ≤ xs.length) :
    (((xs ++ zs).take b ++ xs.drop a ++ (xs ++ zs).drop (b + (xs.drop a).length)).take a ++ ys ++ ((xs ++ zs).take b ++ xs.drop a ++ (xs ++ zs).drop (b + (xs.drop a).length)).drop (a + ys.length)) = xs.take a ++ ys ++ xs.drop a := by
  have hT : ((xs ++ zs).take b).length = b := by rw [List.length_take, List.length_append]; omega
  have hD : (xs ++ zs).drop (b + (xs.drop a).length) = [] := List.drop_of_length_le (by rw [List.length_append, List.length_drop]; omega)
  rw [hD, List.append_nil, List.take_append_of_le_length (by omega), List.take_take, Nat.min_eq_left (by omega), List.take_append_of_le_length (by omega), hy, ← hb, List.drop_append_of_le_length (by omega), List.drop_of_length_le (by omega), List.nil_append]
theorem owns_extend {w : World} {base : Nat} {e : TypeId} {size g n cap : Nat} {xs : List Value} (h : w.ownsRow base e size (.slice (some ⟨g, 0, none⟩) n cap) n xs) (hc : n + 1 ≤ cap) : ∃ zs : List Value, zs.length = size ∧ w.ownsRow base e size (.slice (some ⟨g, 0, none⟩) (n + 1) cap) (n + 1) (xs ++ zs) := by
  have hx := h.1
  rcases h.2 with ⟨hv, _⟩ | ⟨g', cp, cur, hv, hb, hh, h1, h2, h3, h4⟩
  · simp at hv
  · simp only [Value.slice.injEq, Option.some.injEq, Addr.mk.injEq, and_true, true_and] at hv
    obtain ⟨rfl, rfl⟩ := hv
    have hm : (n + 1) * size ≤ cap * size := Nat.mul_le_mul_right _ hc
    have hm2 : (n + 1) * size = n * size + size := by rw [Nat.add_mul, Nat.one_mul]
    refine ⟨(cur.toList.drop (n * size)).take size, by simp; omega, ?_, .inr ⟨g, cap, cur, rfl, hb, hh, hc, h2, h3, ?_⟩⟩
    · simp; omega
    · rw [hm2, List.take_add, h4]
/-- A copy whose run is known. -/
theorem wp_copyR {P : Program} (w : World) {o : Oper} {a : Act} {K : Act → World → Prop} {Q : Exit → Act → World → Prop} (d s : Operand) (t t' : TypeId)
    (ho : o.op = .call { callee := .builtin .copy, args := #[d, s], argTypes := #[t, t'] }) (v u : Value) (hd : a.eval d = v) (hs : a.eval s = u) {x : Value} {w' : World}
    (hr : (Builtin.copy_ #[t, t'] o.type #[v, u]).run P w = .ok x w') (hK : K (a.put o.dst x) w') : o.wp P a w K Q := by
  unfold Oper.wp
  simp [execOp, ho, resolve, invoke, builtin, hd, hs, hr, Result.andThen]
  exact hK
theorem wpList_copyR {P : Program} (w : World) {ops : Array Oper} {rest : List Oper} {o : Oper} {a : Act} {Q : Exit → Act → World → Prop} (hg : o.guard = none) (d s : Operand) (t t' : TypeId)
    (ho : o.op = .call { callee := .builtin .copy, args := #[d, s], argTypes := #[t, t'] }) (v u : Value) (hd : a.eval d = v) (hs : a.eval s = u) {x : Value} {w' : World}
    (hr : (Builtin.copy_ #[t, t'] o.type #[v, u]).run P w = .ok x w') (hK : wpList P ops Q rest (a.put o.dst x) w') : wpList P ops Q (o :: rest) a w :=
  wpList_plain hg fun _ h => wp_copyR w d s t t' ho v u hd hs hr (h _ _ hK)
theorem step_copyR {P : Program} {ops : Array Oper} {o : Oper} {a : Act} {w : World} {K : Act → World → Prop} {Q : Exit → Act → World → Prop} {E : Prop} (hg : o.guard = none) (d s : Operand) (t t' : TypeId)
    (ho : o.op = .call { callee := .builtin .copy, args := #[d, s], argTypes := #[t, t'] }) (v u : Value) (hd : a.eval d = v) (hs : a.eval s = u) {x : Value} {w' : World}
    (hr : (Builtin.copy_ #[t, t'] o.type #[v, u]).run P w = .ok x w') (hK : K (a.put o.dst x) w') : if Region.wanted o (yielded ops a.tmps) = true then Oper.wp P o a w K Q else E := by
  have hw : Region.wanted o (yielded ops a.tmps) = true := by simp [Region.wanted, hg]
  rw [if_pos hw]
  exact wp_copyR w d s t t' ho v u hd hs hr hK
theorem run_copyS {P : Program} (w : World) (dT sT ty elem : TypeId) (b o dLen dCap : Nat) (a : Addr) (sLen sCap size k : Nat) (cs : List Value) (i : TypeInfo)
    (hu : P.underlying dT = some (.slice elem)) (hi : P.info? elem = some i) (hs : i.size = size) (hk : Nat.min sLen dLen = k) (hn : cs.length = k * size)
    (hsrc : ∀ j v, cs[j]? = some v → w.cell? (a.add j) = some v) (hc : ∀ j, j < cs.length → (w.cell? ⟨b, o + j, none⟩).isSome = true) (hf : ∀ j, j < cs.length → w.frozen? ⟨b, o + j, none⟩ = false) (h1 : ∀ v ∈ cs, v.oneCell' = true) :
    (Builtin.copy_ #[dT, sT] ty #[.slice (some ⟨b, o, none⟩) dLen dCap, .slice (some a) sLen sCap]).run P w = .ok (goInt k) (w.setCells b o cs) := by
  have hl := run_loadCells_list (P := P) w a cs hsrc
  have hst := run_storeCells_cells (P := P) b o cs 0 w (by simpa using hc) (by simpa using hf) h1
  subst hk
  simp [Builtin.copy_, run_underlying hu, Builtin.lenOf, Builtin.firstCells, sizeOf, typeInfo, hi, hs, ← hn, hl, hst]

set_option maxRecDepth 100000 in
set_option maxHeartbeats 4000000 in
/-- Insert behind the last one. -/
theorem insertR_end (B g n cap vb : Nat) (xs ys : List Value) (w : World) (hown : w.ownsRow B 49 3 (.slice (some ⟨g, 0, none⟩) n cap) n xs) (hv : w.heap[vb]? = some (.cells ys.toArray 49 (0, 0))) (hy : ys.length = 3) (h1 : ∀ u ∈ ys, u.oneCell' = true) (hn : n ≤ 1048576) (hB : B ≤ w.heap.size) :
    Calls Try.prog 68 #[.slice (some ⟨g, 0, none⟩) n cap, .int .i64 n, .slice (some ⟨vb, 0, none⟩) 1 1] w fun e w' => ∃ g' c', e = .returned (.slice (some ⟨g', 0, none⟩) (n + 1) c') ∧ w'.ownsRow B 49 3 (.slice (some ⟨g', 0, none⟩) (n + 1) c') (n + 1) (xs ++ ys) ∧ w.grownBy w' (some g) ∧ (g' = g ∨ w.heap.size ≤ g') := by
  obtain ⟨i0, hi, hz0, hz1, hz2⟩ := info_parts Try.info49
  have hcap := owns_capN hown
  have hic : n ≤ cap := hcap.1
  have hnews : ∀ j u, ys[j]? = some u → w.cell? ((⟨vb, 0, none⟩ : Addr).add j) = some u := fun j u hj => World.news_of_block hv j u (by simpa using hj)
  have HY := hid (show ys.length = 1 * 3 by omega)
  have HN := hid hnews
  have hnn : ((n : Int) == (n : Int)) = true := by simp
  have hng : (Value.slice (some ⟨g, 0, none⟩) n cap).ownBlock = some g := rfl
  clear hnews hv hy
  go_enter Try.func68, Try.ntmps68
  go_wp2_with (at_builtin; go_must (refine wpList_append_lies w rfl (.tmp 23) (.tmp 24) 25 rfl B 49 i0 _ 3 24 Try.underlying25 hi hz0 hz1 hz2 rfl (by omega) (.slice (some ⟨g, 0, none⟩) n cap) n xs rfl hown ⟨vb, 0, none⟩ 1 1 ys rfl HY.out HN.out h1 (by omega) (by unfold maxLen; omega) (by omega) hB _ rfl ?_; intro g' c' w' own' gr' at'' lt'; have AT := hid at''; clear at''))
  all_goals
    go_ret
    have at' := AT.out
    rw [hng] at gr'
    refine ⟨g', c', rfl, own', gr', ?_⟩
    rcases at' with h | h
    · simp [Value.ownBlock] at h; exact .inl h.symm
    · exact .inr (by omega)

set_option maxRecDepth 100000 in
set_option maxHeartbeats 8000000 in
/-- Insert ahead of the last one, there is room. -/
theorem insertR_room (B g n cap i vb : Nat) (xs ys : List Value) (w : World) (hown : w.ownsRow B 49 3 (.slice (some ⟨g, 0, none⟩) n cap) n xs) (hv : w.heap[vb]? = some (.cells ys.toArray 49 (0, 0))) (hy : ys.length = 3) (h1 : ∀ u ∈ ys, u.oneCell' = true) (h1x : ∀ u ∈ xs, u.oneCell' = true) (hn : n ≤ 1048576) (hi : i < n) (hroom : n + 1 ≤ cap) (hvb : vb ≠ g) :
    Calls Try.prog 68 #[.slice (some ⟨g, 0, none⟩) n cap, .int .i64 i, .slice (some ⟨vb, 0, none⟩) 1 1] w fun e w' => e = .returned (.slice (some ⟨g, 0, none⟩) (n + 1) cap) ∧ w'.ownsRow B 49 3 (.slice (some ⟨g, 0, none⟩) (n + 1) cap) (n + 1) (xs.take (i * 3) ++ ys ++ xs.drop (i * 3)) ∧ w.grownBy w' (some g) := by
  obtain ⟨i0, hi0, hz0, hz1, hz2⟩ := info_parts Try.info49
  have hcap := owns_capN hown
  have hx := hown.1
  obtain ⟨zs, hzl, oE⟩ := owns_extend hown hroom
  have hnews : ∀ j u, ys[j]? = some u → w.cell? ((⟨vb, 0, none⟩ : Addr).add j) = some u := fun j u hj => World.news_of_block hv j u (by simpa using hj)
  have hnn : ((i : Int) == (n : Int)) = false := by simp; omega
  have hlt : ¬ (cap : Int) < (n : Int) + 1 := by omega
  have hw1 : IntKind.i64.wrap ((n : Int) + 1) = (n : Int) + 1 := IntWalk.i64_in _ ⟨by omega, by omega⟩
  have hw2 : IntKind.i64.wrap ((i : Int) + 1) = (i : Int) + 1 := IntWalk.i64_in _ ⟨by omega, by omega⟩
  have hdl : (xs.drop (i * 3)).length = (n - i) * 3 := by rw [List.length_drop, hx, Nat.sub_mul]
  have oD : w.drew.ownsRow B 49 3 (.slice (some ⟨g, 0, none⟩) (n + 1) cap) (n + 1) (xs ++ zs) := oE
  have hcp1 : ∀ ty dc sc, (Builtin.copy_ #[25, 25] ty #[.slice (some ⟨g, (i + 1) * 3, none⟩) (n - i) dc, .slice (some ⟨g, i * 3, none⟩) (n + 1 - i) sc]).run Try.prog w.drew = .ok (goInt ((n - i : Nat) : Int)) (w.drew.setCells g ((i + 1) * 3) (xs.drop (i * 3))) := fun ty dc sc =>
    run_copyS w.drew _ _ ty 49 g ((i + 1) * 3) (n - i) dc ⟨g, i * 3, none⟩ (n + 1 - i) sc 3 (n - i) (xs.drop (i * 3)) i0 Try.underlying25 hi0 hz1 (by simp only [Nat.min_def]; split <;> omega) hdl
      (fun j v hj => by
        have hjl := (List.getElem?_eq_some_iff.1 hj).1
        rw [Addr.add_lit, oD.cellAt _ (by omega), List.getElem?_append_left (by omega)]
        rw [List.getElem?_drop] at hj
        simpa using hj)
      (fun j hj => by
        obtain ⟨u, hu⟩ := owns_some oD (j := (i + 1) * 3 + j) (by omega)
        rw [hu]; rfl)
      (fun j hj => oD.frozenAt _) (fun v hv => h1x v (List.mem_of_mem_drop hv))
  have ⟨own1, gr1⟩ := owns_setCells (xs.drop (i * 3)) ((i + 1) * 3) _ _ oD (by simp; omega)
  obtain ⟨W1, hW1⟩ : ∃ W1, W1 = w.drew.setCells g ((i + 1) * 3) (xs.drop (i * 3)) := ⟨_, rfl⟩
  rw [← hW1] at own1 gr1 hcp1
  have hcp2 : ∀ ty dc, (Builtin.copy_ #[25, 25] ty #[.slice (some ⟨g, i * 3, none⟩) (n + 1 - i) dc, .slice (some ⟨vb, 0, none⟩) 1 1]).run Try.prog W1 = .ok (goInt ((1 : Nat) : Int)) (W1.setCells g (i * 3) ys) := fun ty dc =>
    run_copyS W1 _ _ ty 49 g (i * 3) (n + 1 - i) dc ⟨vb, 0, none⟩ 1 1 3 1 ys i0 Try.underlying25 hi0 hz1 (by simp only [Nat.min_def]; split <;> omega) (by omega)
      (fun j v hj => by
        have := hnews j v hj
        rw [Addr.add_lit] at this ⊢
        rw [hW1, World.cell?_setCells_out g _ _ _ _ (fun h _ => absurd h hvb)]
        exact this)
      (fun j hj => by
        obtain ⟨u, hu⟩ := owns_some own1 (j := i * 3 + j) (by omega)
        rw [hu]; rfl)
      (fun j hj => own1.frozenAt _) h1
  have ⟨own2, gr2⟩ := owns_setCells ys (i * 3) _ _ own1 (by simp; omega)
  have hov : ∀ lb cb, (callFunc 84 #[.slice (some ⟨vb, 0, none⟩) 1 1, .slice (some ⟨g, (i + 1) * 3, none⟩) lb cb]).run Try.prog w = .ok (.value (.bool false)) w := fun lb cb => by
    have hsz : ∀ w, (Go.sizeOf 49).run Try.prog w = .ok 3 w := fun _ => by kernel_rfl
    rcases hown.2 with ⟨hvv, _⟩ | ⟨g', cp, cur, hvv, _, hh, _, _, h3, _⟩
    · simp at hvv
    simp only [Value.slice.injEq, Option.some.injEq, Addr.mk.injEq, and_true, true_and] at hvv
    obtain ⟨rfl, rfl⟩ := hvv
    rw [run_callFunc_extern Try.func84 (by kernel_rfl) (by kernel_rfl) (by kernel_rfl) (e := Extern.SlicesOverlaps.overlaps #[25, 25] #[4]) (by kernel_rfl),
      Lib.run_overlaps_apart w 25 4 49 Try.underlying25 3 hsz ⟨vb, 0, none⟩ ⟨g, (i + 1) * 3, none⟩ 1 1 lb cb hvb 49 49 ys.toArray.size cur.size (by simp [World.shape?, hv]) (by simp [World.shape?, hh]) (by rw [h3]; omega) (by simp [World.frozen?, hv]) (by simp [World.frozen?, hv])]
    rfl
  have gr1' : w.grownBy W1 (some g) := ⟨gr1.os, gr1.tape, gr1.output, gr1.size, gr1.block⟩
  have hF : (((xs ++ zs).take ((i + 1) * 3) ++ xs.drop (i * 3) ++ (xs ++ zs).drop ((i + 1) * 3 + (xs.drop (i * 3)).length)).take (i * 3) ++ ys ++ ((xs ++ zs).take ((i + 1) * 3) ++ xs.drop (i * 3) ++ (xs ++ zs).drop ((i + 1) * 3 + (xs.drop (i * 3)).length)).drop (i * 3 + ys.length)) = xs.take (i * 3) ++ ys ++ xs.drop (i * 3) := by
    exact insert_cells xs ys zs (i * 3) ((i + 1) * 3) 3 (by omega) hy hzl (by rw [hx]; omega)
  rw [hF] at own2
  have HO := hid own2
  clear hF own2 own1 hdl hx hzl oE oD gr1 hown hv hy hnews hW1
  have hic : i ≤ cap := by omega
  have hb1 : (0 : Int) ≤ (i : Int) + 1 := by omega
  have hin : i ≤ n := by omega
  have htn : ((i : Int) + 1).toNat = i + 1 := by omega
  have hb2 : ¬ (cap = i + 1) := by omega
  have hb3 : (i : Int) ≤ (n : Int) + 1 := by omega
  have hb4 : ¬ (cap = i) := by omega
  go_enter Try.func68, Try.ntmps68
  go_wp2_with (simp only [hov])
  go_region
  go_wp2
  go_ret
  exact ⟨rfl, HO.out, gr_trans gr1' gr2⟩

set_option maxRecDepth 100000 in
set_option maxHeartbeats 4000000 in
/-- Insert behind the last one. -/
theorem insertL_end (B g n cap vb : Nat) (xs ys : List Value) (w : World) (hown : w.ownsRow B 65 1 (.slice (some ⟨g, 0, none⟩) n cap) n xs) (hv : w.heap[vb]? = some (.cells ys.toArray 65 (0, 0))) (hy : ys.length = 1) (h1 : ∀ u ∈ ys, u.oneCell' = true) (hn : n ≤ 1048576) (hB : B ≤ w.heap.size) :
    Calls Try.prog 69 #[.slice (some ⟨g, 0, none⟩) n cap, .int .i64 n, .slice (some ⟨vb, 0, none⟩) 1 1] w fun e w' => ∃ g' c', e = .returned (.slice (some ⟨g', 0, none⟩) (n + 1) c') ∧ w'.ownsRow B 65 1 (.slice (some ⟨g', 0, none⟩) (n + 1) c') (n + 1) (xs ++ ys) ∧ w.grownBy w' (some g) ∧ (g' = g ∨ w.heap.size ≤ g') := by
  obtain ⟨i0, hi, hz0, hz1, hz2⟩ := info_parts Try.info65
  have hcap := owns_capN hown
  have hic : n ≤ cap := hcap.1
  have hnews : ∀ j u, ys[j]? = some u → w.cell? ((⟨vb, 0, none⟩ : Addr).add j) = some u := fun j u hj => World.news_of_block hv j u (by simpa using hj)
  have HY := hid (show ys.length = 1 * 1 by omega)
  have HN := hid hnews
  have hnn : ((n : Int) == (n : Int)) = true := by simp
  have hng : (Value.slice (some ⟨g, 0, none⟩) n cap).ownBlock = some g := rfl
  clear hnews hv hy
  go_enter Try.func69, Try.ntmps69
  go_wp2_with (at_builtin; go_must (refine wpList_append_lies w rfl (.tmp 23) (.tmp 24) 26 rfl B 65 i0 _ 1 24 Try.underlying26 hi hz0 hz1 hz2 rfl (by omega) (.slice (some ⟨g, 0, none⟩) n cap) n xs rfl hown ⟨vb, 0, none⟩ 1 1 ys rfl HY.out HN.out h1 (by omega) (by unfold maxLen; omega) (by omega) hB _ rfl ?_; intro g' c' w' own' gr' at'' lt'; have AT := hid at''; clear at''))
  all_goals
    go_ret
    have at' := AT.out
    rw [hng] at gr'
    refine ⟨g', c', rfl, own', gr', ?_⟩
    rcases at' with h | h
    · simp [Value.ownBlock] at h; exact .inl h.symm
    · exact .inr (by omega)

set_option maxRecDepth 100000 in
set_option maxHeartbeats 8000000 in
/-- Insert ahead of the last one, there is room. -/
theorem insertL_room (B g n cap i vb : Nat) (xs ys : List Value) (w : World) (hown : w.ownsRow B 65 1 (.slice (some ⟨g, 0, none⟩) n cap) n xs) (hv : w.heap[vb]? = some (.cells ys.toArray 65 (0, 0))) (hy : ys.length = 1) (h1 : ∀ u ∈ ys, u.oneCell' = true) (h1x : ∀ u ∈ xs, u.oneCell' = true) (hn : n ≤ 1048576) (hi : i < n) (hroom : n + 1 ≤ cap) (hvb : vb ≠ g) :
    Calls Try.prog 69 #[.slice (some ⟨g, 0, none⟩) n cap, .int .i64 i, .slice (some ⟨vb, 0, none⟩) 1 1] w fun e w' => e = .returned (.slice (some ⟨g, 0, none⟩) (n + 1) cap) ∧ w'.ownsRow B 65 1 (.slice (some ⟨g, 0, none⟩) (n + 1) cap) (n + 1) (xs.take (i * 1) ++ ys ++ xs.drop (i * 1)) ∧ w.grownBy w' (some g) := by
  obtain ⟨i0, hi0, hz0, hz1, hz2⟩ := info_parts Try.info65
  have hcap := owns_capN hown
  have hx := hown.1
  obtain ⟨zs, hzl, oE⟩ := owns_extend hown hroom
  have hnews : ∀ j u, ys[j]? = some u → w.cell? ((⟨vb, 0, none⟩ : Addr).add j) = some u := fun j u hj => World.news_of_block hv j u (by simpa using hj)
  have hnn : ((i : Int) == (n : Int)) = false := by simp; omega
  have hlt : ¬ (cap : Int) < (n : Int) + 1 := by omega
  have hw1 : IntKind.i64.wrap ((n : Int) + 1) = (n : Int) + 1 := IntWalk.i64_in _ ⟨by omega, by omega⟩
  have hw2 : IntKind.i64.wrap ((i : Int) + 1) = (i : Int) + 1 := IntWalk.i64_in _ ⟨by omega, by omega⟩
  have hdl : (xs.drop (i * 1)).length = (n - i) * 1 := by rw [List.length_drop, hx, Nat.sub_mul]
  have oD : w.drew.ownsRow B 65 1 (.slice (some ⟨g, 0, none⟩) (n + 1) cap) (n + 1) (xs ++ zs) := oE
  have hcp1 : ∀ ty dc sc, (Builtin.copy_ #[26, 26] ty #[.slice (some ⟨g, i + 1, none⟩) (n - i) dc, .slice (some ⟨g, i, none⟩) (n + 1 - i) sc]).run Try.prog w.drew = .ok (goInt ((n - i : Nat) : Int)) (w.drew.setCells g (i + 1) (xs.drop (i * 1))) := fun ty dc sc =>
    run_copyS w.drew _ _ ty 65 g (i + 1) (n - i) dc ⟨g, i, none⟩ (n + 1 - i) sc 1 (n - i) (xs.drop (i * 1)) i0 Try.underlying26 hi0 hz1 (by simp only [Nat.min_def]; split <;> omega) hdl
      (fun j v hj => by
        have hjl := (List.getElem?_eq_some_iff.1 hj).1
        rw [Addr.add_lit, oD.cellAt _ (by omega), List.getElem?_append_left (by omega)]
        rw [List.getElem?_drop] at hj
        simpa using hj)
      (fun j hj => by
        obtain ⟨u, hu⟩ := owns_some oD (j := i + 1 + j) (by omega)
        rw [hu]; rfl)
      (fun j hj => oD.frozenAt _) (fun v hv => h1x v (List.mem_of_mem_drop hv))
  have ⟨own1, gr1⟩ := owns_setCells (xs.drop (i * 1)) (i + 1) _ _ oD (by simp; omega)
  obtain ⟨W1, hW1⟩ : ∃ W1, W1 = w.drew.setCells g (i + 1) (xs.drop (i * 1)) := ⟨_, rfl⟩
  rw [← hW1] at own1 gr1 hcp1
  have hcp2 : ∀ ty dc, (Builtin.copy_ #[26, 26] ty #[.slice (some ⟨g, i, none⟩) (n + 1 - i) dc, .slice (some ⟨vb, 0, none⟩) 1 1]).run Try.prog W1 = .ok (goInt ((1 : Nat) : Int)) (W1.setCells g (i) ys) := fun ty dc =>
    run_copyS W1 _ _ ty 65 g (i) (n + 1 - i) dc ⟨vb, 0, none⟩ 1 1 1 1 ys i0 Try.underlying26 hi0 hz1 (by simp only [Nat.min_def]; split <;> omega) (by omega)
      (fun j v hj => by
        have := hnews j v hj
        rw [Addr.add_lit] at this ⊢
        rw [hW1, World.cell?_setCells_out g _ _ _ _ (fun h _ => absurd h hvb)]
        exact this)
      (fun j hj => by
        obtain ⟨u, hu⟩ := owns_some own1 (j := i + j) (by omega)
        rw [hu]; rfl)
      (fun j hj => own1.frozenAt _) h1
  have ⟨own2, gr2⟩ := owns_setCells ys (i) _ _ own1 (by simp; omega)
  have hov : ∀ lb cb, (callFunc 86 #[.slice (some ⟨vb, 0, none⟩) 1 1, .slice (some ⟨g, i + 1, none⟩) lb cb]).run Try.prog w = .ok (.value (.bool false)) w := fun lb cb => by
    have hsz : ∀ w, (Go.sizeOf 65).run Try.prog w = .ok 1 w := fun _ => by kernel_rfl
    rcases hown.2 with ⟨hvv, _⟩ | ⟨g', cp, cur, hvv, _, hh, _, _, h3, _⟩
    · simp at hvv
    simp only [Value.slice.injEq, Option.some.injEq, Addr.mk.injEq, and_true, true_and] at hvv
    obtain ⟨rfl, rfl⟩ := hvv
    rw [run_callFunc_extern Try.func86 (by kernel_rfl) (by kernel_rfl) (by kernel_rfl) (e := Extern.SlicesOverlaps.overlaps #[26, 26] #[4]) (by kernel_rfl),
      Lib.run_overlaps_apart w 26 4 65 Try.underlying26 1 hsz ⟨vb, 0, none⟩ ⟨g, i + 1, none⟩ 1 1 lb cb hvb 65 65 ys.toArray.size cur.size (by simp [World.shape?, hv]) (by simp [World.shape?, hh]) (by rw [h3]; omega) (by simp [World.frozen?, hv]) (by simp [World.frozen?, hv])]
    rfl
  have gr1' : w.grownBy W1 (some g) := ⟨gr1.os, gr1.tape, gr1.output, gr1.size, gr1.block⟩
  have hF : (((xs ++ zs).take (i + 1) ++ xs.drop (i * 1) ++ (xs ++ zs).drop (i + 1 + (xs.drop (i * 1)).length)).take (i) ++ ys ++ ((xs ++ zs).take (i + 1) ++ xs.drop (i * 1) ++ (xs ++ zs).drop (i + 1 + (xs.drop (i * 1)).length)).drop (i + ys.length)) = xs.take (i * 1) ++ ys ++ xs.drop (i * 1) := by
    simp only [Nat.mul_one]
    exact insert_cells xs ys zs (i) (i + 1) 1 (by omega) hy hzl (by rw [hx]; omega)
  rw [hF] at own2
  have HO := hid own2
  clear hF own2 own1 hdl hx hzl oE oD gr1 hown hv hy hnews hW1
  have hic : i ≤ cap := by omega
  have hb1 : (0 : Int) ≤ (i : Int) + 1 := by omega
  have hin : i ≤ n := by omega
  have htn : ((i : Int) + 1).toNat = i + 1 := by omega
  have hb2 : ¬ (cap = i + 1) := by omega
  have hb3 : (i : Int) ≤ (n : Int) + 1 := by omega
  have hb4 : ¬ (cap = i) := by omega
  go_enter Try.func69, Try.ntmps69
  go_wp2_with (simp only [hov])
  go_region
  go_wp2
  go_ret
  exact ⟨rfl, HO.out, gr_trans gr1' gr2⟩

end Go.Proofs.Ytjjbjdjkcckgmaa
