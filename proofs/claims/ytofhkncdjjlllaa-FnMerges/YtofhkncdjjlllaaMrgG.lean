
/- Leaves put in the place of two: the model's. -/
import Derived.Test.YtofhkncdjjlllaaMrgF
import Derived.Test.YtofhkncdjjlllaaPutE
namespace Go.Proofs.Ytofhkncdjjlllaa
open Go.RowKit

/-- Leaves appended to leaves, in a region that draws. -/
theorem step_appLvB {ops : Array Oper} {o : Oper} {a : Act} {w : World} {K : Act → World → Prop} {Q : Exit → Act → World → Prop} {E : Prop} (s x : Operand)
    (B : Nat) (v : Value) (n : Nat) (xs : List Value) (m : Nat) (ys : List Value) (hm : n + m ≤ 2097152) (h1 : ∀ u ∈ ys, u.oneCell' = true)
    (ho : o.op = .call { callee := .builtin .append, args := #[s, x], argTypes := #[40, 40] }) (hgd : o.guard = none)
    (hs : a.eval s = v) (hx : ∃ ad c, a.eval x = .slice (some ad) m c ∧ CellsAt w (some ad) m ys)
    (hown : w.ownsRow B 59 1 v n xs) (hbase : B ≤ w.heap.size)
    (hK : ∀ a' c' w', w'.ownsRow B 59 1 (.slice a' (n + m) c') (n + m) (xs ++ ys) → Below B w w' → K (a.put o.dst (.slice a' (n + m) c')) w') :
    if Region.wanted o (yielded ops a.tmps) = true then Oper.wp Try.prog o a w K Q else E := by
  have hw : Region.wanted o (yielded ops a.tmps) = true := by simp [Region.wanted, hgd]
  rw [if_pos hw]
  obtain ⟨ad, c, hx, hc⟩ := hx
  obtain ⟨i0, hi, hz0, hz1, hz2⟩ := info_parts Try.info59
  refine wp_append_own w s x 40 ho B 59 i0 _ 1 24 Try.underlying40 hi hz0 hz1 hz2 rfl (by omega) v n xs hs hown ad m c ys hx (by rw [Nat.mul_one]; exact hc.1) ?_ h1 (by unfold maxLen; omega) (by omega) hbase ?_
  · intro j u hj
    have hjl : j < ys.length := (List.getElem?_eq_some_iff.1 hj).1
    have hl := hc.1
    obtain ⟨b, off, ha, hcc⟩ := hc.2 (by omega)
    simp only [Option.some.injEq] at ha
    subst ha
    have e : (⟨b, off, none⟩ : Addr).add j = ⟨b, off + j, none⟩ := by
      unfold Addr.add
      split
      · next h0 => subst h0; rfl
      · rfl
    rw [e, hcc j (by omega), hj]
  · intro v' w' hown' hgrow _
    obtain ⟨a', c', rfl⟩ := owns_shape hown'
    refine hK a' c' w' hown' ((Below.refl _ _).grown hgrow hbase (fun k hk => ?_))
    exact (owns_lt hown k hk).1
/-- Rows appended to rows, in a region that draws. -/
theorem step_appRsB {ops : Array Oper} {o : Oper} {a : Act} {w : World} {K : Act → World → Prop} {Q : Exit → Act → World → Prop} {E : Prop} (s x : Operand)
    (B : Nat) (v : Value) (n : Nat) (rs : List Ch.Row) (m : Nat) (zs : List Ch.Row) (hm : n + m ≤ 2097152)
    (ho : o.op = .call { callee := .builtin .append, args := #[s, x], argTypes := #[48, 48] }) (hgd : o.guard = none)
    (hs : a.eval s = v) (hx : ∃ ad c, a.eval x = .slice (some ad) m c ∧ CellsAt w (some ad) (m * 3) (rcells zs))
    (hown : w.ownsRow B 42 3 v n (rcells rs)) (hbase : B ≤ w.heap.size)
    (hK : ∀ a' c' w', w'.ownsRow B 42 3 (.slice a' (n + m) c') (n + m) (rcells (rs ++ zs)) → Below B w w' → K (a.put o.dst (.slice a' (n + m) c')) w') :
    if Region.wanted o (yielded ops a.tmps) = true then Oper.wp Try.prog o a w K Q else E := by
  have hw : Region.wanted o (yielded ops a.tmps) = true := by simp [Region.wanted, hgd]
  rw [if_pos hw]
  obtain ⟨ad, c, hx, hc⟩ := hx
  obtain ⟨i0, hi, hz0, hz1, hz2⟩ := info_parts Try.info42
  refine wp_append_own w s x 48 ho B 42 i0 _ 3 24 Try.underlying48 hi hz0 hz1 hz2 rfl (by omega) v n (rcells rs) hs hown ad m c (rcells zs) hx hc.1 ?_ (rcells_one zs) (by unfold maxLen; omega) (by omega) hbase ?_
  · intro j u hj
    have hjl : j < (rcells zs).length := (List.getElem?_eq_some_iff.1 hj).1
    have hl := hc.1
    obtain ⟨b, off, ha, hcc⟩ := hc.2 (by omega)
    simp only [Option.some.injEq] at ha
    subst ha
    have e : (⟨b, off, none⟩ : Addr).add j = ⟨b, off + j, none⟩ := by
      unfold Addr.add
      split
      · next h0 => subst h0; rfl
      · rfl
    rw [e, hcc j (by omega), hj]
  · intro v' w' hown' hgrow _
    rw [← rcells_append] at hown'
    obtain ⟨a', c', rfl⟩ := owns_shape hown'
    refine hK a' c' w' hown' ((Below.refl _ _).grown hgrow hbase (fun k hk => ?_))
    exact (owns_lt hown k hk).1

/-- Leaves of which two are replaced, as they lie one behind the other. -/
theorem lvAt_two {w : World} {A : Option Addr} {n N k : Nat} {vs us : List Value} {ls ms : List (List Ch.Row)} (hl : ls.length = n) (hvl : vs.length = n) (hul : us.length = ms.length) (hk : k + 1 < n) (hN : N + 2 = n + us.length)
    (hc : CellsAt w A N (vs.take k ++ us ++ vs.drop (k + 2)))
    (hv : ∀ i, i < n → ∃ ai ni ci, vs[i]? = some (.slice ai ni ci) ∧ CellsAt w ai (ni * 3) (rcells (ls.getD i [])) ∧ ni ≤ 9223372036854775807)
    (hu : ∀ i, i < us.length → ∃ ai ni ci, us[i]? = some (.slice ai ni ci) ∧ CellsAt w ai (ni * 3) (rcells (ms.getD i [])) ∧ ni ≤ 9223372036854775807) : LvAt w A N (Ch.twoIn ls k ms) := by
  refine ⟨by simp [Ch.twoIn]; omega, _, hc, fun j hj => ?_⟩
  have htl : (vs.take k).length = k := by simp; omega
  have htm : (ls.take k).length = k := by simp; omega
  unfold Ch.twoIn
  simp only [List.getD]
  by_cases h1 : j < k
  · have e1 : (vs.take k ++ us ++ vs.drop (k + 2))[j]? = vs[j]? := by rw [List.append_assoc, List.getElem?_append_left (by omega), List.getElem?_take, if_pos h1]
    have e2 : (ls.take k ++ ms ++ ls.drop (k + 2))[j]? = ls[j]? := by rw [List.append_assoc, List.getElem?_append_left (by omega), List.getElem?_take, if_pos h1]
    rw [e1, e2]
    exact hv j (by omega)
  · by_cases h2 : j < k + us.length
    · have e1 : (vs.take k ++ us ++ vs.drop (k + 2))[j]? = us[j - k]? := by rw [List.append_assoc, List.getElem?_append_right (by omega), List.getElem?_append_left (by omega), htl]
      have e2 : (ls.take k ++ ms ++ ls.drop (k + 2))[j]? = ms[j - k]? := by rw [List.append_assoc, List.getElem?_append_right (by omega), List.getElem?_append_left (by omega), htm]
      rw [e1, e2]
      exact hu (j - k) (by omega)
    · have e1 : (vs.take k ++ us ++ vs.drop (k + 2))[j]? = vs[j + 2 - us.length]? := by
        rw [List.getElem?_append_right (by simp; omega), List.getElem?_drop]
        simp only [List.length_append, htl]
        congr 1; omega
      have e2 : (ls.take k ++ ms ++ ls.drop (k + 2))[j]? = ls[j + 2 - us.length]? := by
        rw [List.getElem?_append_right (by simp; omega), List.getElem?_drop]
        simp only [List.length_append, htm]
        congr 1; omega
      rw [e1, e2]
      exact hv (j + 2 - us.length) (by omega)
theorem CellsAt.cut {w : World} {b off n k : Nat} {vs : List Value} (h : CellsAt w (some ⟨b, off, none⟩) n vs) (hk : k ≤ n) : CellsAt w (some ⟨b, off, none⟩) k (vs.take k) := by
  have hl := h.1
  refine ⟨by simp; omega, fun hm => ?_⟩
  obtain ⟨b', off', ha, hc⟩ := h.2 (by omega)
  refine ⟨b', off', ha, fun i hi => ?_⟩
  rw [hc i (by omega), List.getElem?_take, if_pos hi]
theorem CellsAt.rest {w : World} {b off n k : Nat} {vs : List Value} (h : CellsAt w (some ⟨b, off, none⟩) n vs) (hk : k ≤ n) : CellsAt w (some ⟨b, off + k, none⟩) (n - k) (vs.drop k) := by
  have hl := h.1
  refine ⟨by simp; omega, fun hm => ?_⟩
  obtain ⟨b', off', ha, hc⟩ := h.2 (by omega)
  simp only [Option.some.injEq, Addr.mk.injEq, and_true] at ha
  obtain ⟨rfl, rfl⟩ := ha
  refine ⟨b, off + k, rfl, fun i hi => ?_⟩
  rw [Nat.add_assoc, hc (k + i) (by omega), List.getElem?_drop]
theorem slices_one {w : World} {n : Nat} {vs : List Value} {ls : List (List Ch.Row)} (hvl : vs.length = n) (hv : ∀ i, i < n → ∃ ai ni ci, vs[i]? = some (.slice ai ni ci) ∧ CellsAt w ai (ni * 3) (rcells (ls.getD i [])) ∧ ni ≤ 9223372036854775807) : ∀ u ∈ vs, u.oneCell' = true := by
  intro u hu
  obtain ⟨i, hi, rfl⟩ := List.getElem_of_mem hu
  obtain ⟨ai, ni, ci, h1, _⟩ := hv i (by omega)
  rw [List.getElem?_eq_getElem hi] at h1
  simp only [Option.some.injEq] at h1
  rw [h1]; rfl

set_option maxHeartbeats 4000000 in
theorem l4Two_any (b off n cap k vb m mc N : Nat) (ls ms : List (List Ch.Row)) (w : World) (h : LvAt w (some ⟨b, off, none⟩) n ls) (hms : LvAt w (some ⟨vb, 0, none⟩) m ms) (hk : k + 1 < n) (hcap : n ≤ cap) (hn : n ≤ 1048576) (hm : m ≤ 2) (hN : N + 2 = n + m) (hsT : Ch.lvSize (Ch.twoIn ls k ms) ≤ 1048576) (hgT : ∀ j, j < N → ((Ch.twoIn ls k ms).getD j []).length ≠ 0) :
    Calls Try.prog 85 #[.slice (some ⟨b, off, none⟩) n cap, .int .i64 k, .slice (some ⟨vb, 0, none⟩) m mc] w fun e w' => ∃ a' c', e = .returned (.slice a' N c') ∧ OwnLv w' w.heap.size (.slice a' N c') N (Ch.twoIn ls k ms) ∧ Below w.heap.size w w' := by
  obtain ⟨hl, vs, hc, hi⟩ := h
  obtain ⟨hml, us, hcu, hu⟩ := hms
  have hvl : vs.length = n := hc.1
  have hul0 : us.length = m := hcu.1
  have hul : us.length = ms.length := by omega
  have h1 := slices_one hvl hi
  have h1u := slices_one hul0 hu
  have bD0 : Below w.heap.size w w.drew := (Below.refl _ _).drew
  have bD : Below w.heap.size w (w.drew.alloc (.cells #[] 59)) := bD0.alloc bD0.size _
  have e0 : (w.drew.alloc (.cells #[] 59)).ownsRow w.heap.size 59 1 (.slice (some ⟨w.heap.size, 0, none⟩) 0 0) 0 [] := by
    have := empty_leaves w.drew w.heap.size (by simp)
    simpa using this
  have hcA := (hc.cut (k := k) (by omega)).below bD
  obtain ⟨A, hA, hcB⟩ : ∃ A : Addr, (if cap = k + 2 then some (⟨b, off, none⟩ : Addr) else some ⟨b, off + (k + 2), none⟩) = some A ∧ CellsAt w (some A) (n - (k + 2)) (vs.drop (k + 2)) := by
    by_cases hcc : cap = k + 2
    · refine ⟨⟨b, off, none⟩, by simp [hcc], ⟨by simp; omega, fun hp => by omega⟩⟩
    · exact ⟨⟨b, off + (k + 2), none⟩, by simp [hcc], hc.rest (by omega)⟩
  have hm1 : 0 + k ≤ 2097152 := by omega
  have hm2 : 0 + k + m ≤ 2097152 := by omega
  have hm3 : 0 + k + m + (n - (k + 2)) ≤ 2097152 := by omega
  have hkc : k ≤ cap := by omega
  have hkn : k ≤ n := by omega
  have hwk : IntKind.i64.wrap ((k : Int) + 2) = (k : Int) + 2 := IntWalk.i64_in _ ⟨by omega, by omega⟩
  have hk2 : (0 : Int) ≤ (k : Int) + 2 := by omega
  have hk3 : (k : Int) + 2 ≤ (n : Int) := by omega
  have hkt : ((k : Int) + 2).toNat = k + 2 := by omega
  go_enter Try.func85, Try.ntmps85
  go_wp2
  refine wp_region_noPanic ?_
  refine wp_region_held_drew (S := fun _ => True) (by kernel_rfl) trivial (fun hH => ?_)
  refine hTake (i := 1) (v := ?_) rfl (by kernel_rfl) (by kernel_rfl) (by kernel_rfl) (by rfl) ?_ hH ?_
  rotate_left
  · intro W hW; (try dsimp only at hW); go_simp <;> with_reducible rfl
  simp only [Act.put, List.setIfInBounds_toArray, List.set_cons_zero, List.set_cons_succ]
  refine hTake (i := 2) (v := ?_) rfl (by kernel_rfl) (by kernel_rfl) (by kernel_rfl) (by rfl) ?_ hH ?_
  rotate_left
  · intro W hW; (try dsimp only at hW); go_simp <;> with_reducible rfl
  simp only [Act.put, List.setIfInBounds_toArray, List.set_cons_zero, List.set_cons_succ]
  refine hTake (i := 3) (v := ?_) rfl (by kernel_rfl) (by kernel_rfl) (by kernel_rfl) (by rfl) ?_ hH ?_
  rotate_left
  · intro W hW; (try dsimp only at hW); go_simp <;> with_reducible rfl
  simp only [Act.put, List.setIfInBounds_toArray, List.set_cons_zero, List.set_cons_succ]
  refine hTake (i := 5) (v := ?_) rfl (by kernel_rfl) (by kernel_rfl) (by kernel_rfl) (by rfl) ?_ hH ?_
  rotate_left
  · intro W hW; (try dsimp only at hW); go_simp <;> with_reducible rfl
  simp only [Act.put, List.setIfInBounds_toArray, List.set_cons_zero, List.set_cons_succ]
  refine hTake (i := 7) (v := ?_) rfl (by kernel_rfl) (by kernel_rfl) (by kernel_rfl) (by rfl) ?_ hH ?_
  rotate_left
  · intro W hW; (try dsimp only at hW); go_simp <;> with_reducible rfl
  simp only [Act.put, List.setIfInBounds_toArray, List.set_cons_zero, List.set_cons_succ]
  refine hTake (i := 8) (v := ?_) rfl (by kernel_rfl) (by kernel_rfl) (by kernel_rfl) (by rfl) ?_ hH ?_
  rotate_left
  · intro W hW; (try dsimp only at hW); go_simp <;> with_reducible rfl
  simp only [Act.put, List.setIfInBounds_toArray, List.set_cons_zero, List.set_cons_succ]
  refine hTake (i := 9) (v := ?_) rfl (by kernel_rfl) (by kernel_rfl) (by kernel_rfl) (by rfl) ?_ hH ?_
  rotate_left
  · intro W hW; (try dsimp only at hW); go_simp <;> with_reducible rfl
  simp only [Act.put, List.setIfInBounds_toArray, List.set_cons_zero, List.set_cons_succ]
  refine hTake (i := 10) (v := ?_) rfl (by kernel_rfl) (by kernel_rfl) (by kernel_rfl) (by rfl) ?_ hH ?_
  rotate_left
  · intro W hW; (try dsimp only at hW); go_simp <;> with_reducible rfl
  simp only [Act.put, List.setIfInBounds_toArray, List.set_cons_zero, List.set_cons_succ]
  refine wpAnyH_ready (rs := [0]) (by kernel_rfl) (by simp) ?_
  refine AllReadyH.cons rfl (fun K hK => ?_) AllReadyH.nil
  go_simp
  refine hK.out _ _ (trivial) (fun hH => ?_)
  clear hK K
  refine wpAnyH_ready (rs := [4]) (by kernel_rfl) (by simp) ?_
  refine AllReadyH.cons rfl (fun K hK => ?_) AllReadyH.nil
  refine step_appLvB (.tmp 7) (.tmp 10) (w.heap.size) (.slice (some ⟨w.heap.size, 0, none⟩) 0 0) (0) ([]) (k) (vs.take k) hm1 (fun u hu => h1 u (List.mem_of_mem_take hu)) ?_ ?_ ?_ ?_ ?_ ?_ ?_
  · exact rfl
  · exact rfl
  · exact rfl
  · exact ⟨_, _, rfl, hcA⟩
  · exact e0
  · exact (by simp)
  intro a4 c4 w4 own4 b4
  have B4 := bD.trans b4
  have own4' := own4
  rw [Nat.zero_add, List.nil_append] at own4'
  have z4 := B4.size
  refine hK.out _ _ (trivial) (fun hH => ?_)
  clear hK K
  refine wpAnyH_ready (rs := [6]) (by kernel_rfl) (by simp) ?_
  refine AllReadyH.cons rfl (fun K hK => ?_) AllReadyH.nil
  refine step_appLvB (.tmp 11) (.tmp 12) (w.heap.size) (.slice a4 (0 + k) c4) (0 + k) ([] ++ vs.take k) (m) (us) hm2 (h1u) ?_ ?_ ?_ ?_ ?_ ?_ ?_
  · exact rfl
  · exact rfl
  · exact rfl
  · exact ⟨_, _, rfl, hcu.below B4⟩
  · exact own4
  · exact z4
  intro a6 c6 w6 own6 b6
  have B6 := B4.trans b6
  have z6 := B6.size
  refine hK.out _ _ (trivial) (fun hH => ?_)
  clear hK K
  refine wpAnyH_ready (rs := [11]) (by kernel_rfl) (by simp) ?_
  refine AllReadyH.cons rfl (fun K hK => ?_) AllReadyH.nil
  refine step_appLvB (.tmp 13) (.tmp 17) (w.heap.size) (.slice a6 (0 + k + m) c6) (0 + k + m) ([] ++ vs.take k ++ us) (n - (k + 2)) (vs.drop (k + 2)) hm3 (fun u hu => h1 u (List.mem_of_mem_drop hu)) ?_ ?_ ?_ ?_ ?_ ?_ ?_
  · exact rfl
  · exact rfl
  · exact rfl
  · exact ⟨_, _, rfl, hcB.below B6⟩
  · exact own6
  · exact z6
  intro a7 c7 w7 own7 b7
  have B7 := B6.trans b7
  have z7 := B7.size
  refine hK.out _ _ (trivial) (fun hH => ?_)
  clear hK K
  refine wpAnyH_ready (rs := [12]) (by kernel_rfl) (by simp) ?_
  refine AllReadyH.cons rfl (fun K hK => ?_) AllReadyH.nil
  go_simp
  have hN : 0 + k + m + (n - (k + 2)) = N := by omega
  have hN2 : k + m + (n - (k + 2)) = N := by omega
  rw [hN] at own7
  rw [hN2]
  rw [List.nil_append] at own7
  have hc7 := owns_cells own7
  rw [Nat.mul_one] at hc7
  have L7 : LvAt w7 a7 N (Ch.twoIn ls k ms) := lvAt_two hl hvl hul hk (by omega) hc7 (fun i hi' => by obtain ⟨ai, ni, ci, q1, q2, q3⟩ := hi i hi'; exact ⟨ai, ni, ci, q1, q2.below B7, q3⟩) (fun i hi' => by obtain ⟨ai, ni, ci, q1, q2, q3⟩ := hu i (by omega); exact ⟨ai, ni, ci, q1, q2.below B7, q3⟩)
  refine (specCopy_any a7 N c7 _ w7 L7 hsT hgT).mono ?_
  rintro e w8 ⟨a8, c8, rfl, oL, b8⟩
  go_wp2_with fail
  refine hK.out _ _ (trivial) (fun hH => ?_)
  clear hK K
  refine hTake (i := 13) (v := ?_) rfl (by kernel_rfl) (by kernel_rfl) (by kernel_rfl) (by rfl) ?_ hH ?_
  rotate_left
  · intro W hW; (try dsimp only at hW); go_simp <;> with_reducible rfl
  simp only [Act.put, List.setIfInBounds_toArray, List.set_cons_zero, List.set_cons_succ]
  refine wpAnyH_done (by kernel_rfl) ?_ _
  refine NoPanic.normal ?_
  clear hH
  go_wp2
  go_ret
  exact ⟨a8, c8, rfl, oL.base z7, B7.trans (b8.mono z7)⟩
end Go.Proofs.Ytofhkncdjjlllaa
