
/- DropRow of the model and of the program. -/
import Derived.Test.YtofhkncdjjlllaaDropS
import Derived.Test.YtofhkncdjjlllaaDelW
import Derived.Test.YtofhkncdjjlllaaFindI
import Derived.Test.YtofhkncdjjlllaaResL
import Derived.Deep.Cut
namespace Go.Proofs.Ytofhkncdjjlllaa
open Go.RowKit Go.Maps

theorem OwnLv.nil (w : World) (B : Nat) : OwnLv w B (.slice none 0 0) 0 [] := ⟨rfl, [], World.ownsRow_nil _ _ _ _, fun i hi => absurd hi (by omega), fun i j x y g _ hx => by simp at hx, fun i x g hx => by simp at hx⟩
theorem owns_set {w : World} {base : Nat} {e : TypeId} {size : Nat} {v : Value} {n : Nat} {xs : List Value} (h : w.ownsRow base e size v n xs) {p o : Nat} (hne : ∀ g, v.ownBlock = some g → g ≠ p) (u : Value) : (w.setCell ⟨p, o, none⟩ u).ownsRow base e size v n xs := by
  refine ⟨h.1, ?_⟩
  rcases h.2 with h' | ⟨g, cap, cur, hv, hb, hh, h1, h2, h3, h4⟩
  · exact .inl h'
  · refine .inr ⟨g, cap, cur, hv, hb, ?_, h1, h2, h3, h4⟩
    rw [Below.heap_setCell _ _ _ _ (hne g (by rw [hv]; rfl))]; exact hh
theorem OwnLv.box {w : World} {B n : Nat} {v : Value} {ls : List (List Ch.Row)} (h : OwnLv w B v n ls) {p o : Nat} (hp : p < B) (u : Value) : OwnLv (w.setCell ⟨p, o, none⟩ u) B v n ls := by
  obtain ⟨hl, vs, ho, hi, hd, hd'⟩ := h
  refine ⟨hl, vs, owns_set ho (fun g hg => by have := owns_lt ho g hg; omega) u, fun i hlt => ?_, hd, hd'⟩
  obtain ⟨x, h1, h2⟩ := hi i hlt
  exact ⟨x, h1, owns_set h2 (fun g hg => by have := owns_lt h2 g hg; omega) u⟩

/-- One list is written and put back, cut in its own block. -/
theorem OwnV.cut {w w' : World} {B g n cap k : Nat} {vs : List Value} {ls : List (List Ch.Row)} {x x' : Value} {l' : List Ch.Row} (h : OwnV w B (.slice (some ⟨g, 0, none⟩) n cap) n vs ls) (hk : k < n) (hx : vs[k]? = some x) (hg : w.grownBy w' x.ownBlock) (hb : x'.ownBlock = x.ownBlock)
    (ho' : w'.ownsRow B 42 3 x' l'.length (rcells l')) : OwnV (w'.setCell ⟨g, k, none⟩ x') B (.slice (some ⟨g, 0, none⟩) n cap) n (vs.set k x') (ls.set k l') := by
  obtain ⟨hl, ho, hi, hd, hd'⟩ := h
  have hvl : vs.length = n := by have := ho.1; omega
  have ho1 := owns_grown ho hg (fun g' hg' e => hd' k x g' hx hg' e)
  have hst := ho1.stored k x'
  have get : ∀ (i : Nat) (y : Value), (vs.set k x')[i]? = some y → ∃ y0, vs[i]? = some y0 ∧ y.ownBlock = y0.ownBlock := by
    intro i y hy
    by_cases hik : k = i
    · subst hik
      rw [List.getElem?_set_self (by omega)] at hy
      cases hy
      exact ⟨x, hx, hb⟩
    · rw [List.getElem?_set_ne hik] at hy
      exact ⟨y, hy, rfl⟩
  refine ⟨by simpa using hl, hst.1, fun i hlt => ?_, ?_, ?_⟩
  · by_cases hik : k = i
    · subst hik
      refine ⟨x', by simp [hvl, hk], ?_⟩
      have e : (ls.set k l').getD k [] = l' := by simp [List.getD, hl, hk]
      rw [e]
      refine owns_grown ho' hst.2 fun g' hg' he => ?_
      rw [hb] at hg'
      simp at he
      subst he
      exact hd' k x _ hx rfl hg'
    · obtain ⟨y, h1, h2⟩ := hi i hlt
      refine ⟨y, by rw [List.getElem?_set_ne hik]; exact h1, ?_⟩
      have e : (ls.set k l').getD i [] = ls.getD i [] := by simp [List.getD, hik]
      rw [e]
      refine owns_grown (owns_grown h2 hg fun g' hg' e => ?_) hst.2 fun g' hg' he => ?_
      · rcases Nat.lt_or_gt_of_ne hik with hlt' | hgt
        · exact hd k i x y g' hlt' hx h1 e hg'
        · exact hd i k y x g' hgt h1 hx hg' e
      · simp at he
        subst he
        exact hd' i y _ h1 rfl hg'
  · intro i j y z g' hij hy hz hyg
    obtain ⟨y0, hy0, ey⟩ := get i y hy
    obtain ⟨z0, hz0, ez⟩ := get j z hz
    rw [ez]
    exact hd i j y0 z0 g' hij hy0 hz0 (ey ▸ hyg)
  · intro i y g' hy hv
    obtain ⟨y0, hy0, ey⟩ := get i y hy
    rw [ey]
    exact hd' i y0 g' hy0 hv

/-- A leaf is taken out of the list of leaves. -/
theorem OwnV.out {w w' : World} {B g n cap k r : Nat} {xs zs : List Value} {y : Value} {ls : List (List Ch.Row)} (h : OwnV w B (.slice (some ⟨g, 0, none⟩) n cap) n (xs ++ [y] ++ zs) ls) (hn : n = k + 1 + r) (hx : xs.length = k) (hg : w.grownBy w' (some g))
    (ho' : w'.ownsRow B 59 1 (.slice (some ⟨g, 0, none⟩) (k + r) cap) (k + r) (xs ++ zs)) : OwnLv w' B (.slice (some ⟨g, 0, none⟩) (k + r) cap) (k + r) (ls.take k ++ ls.drop (k + 1)) := by
  obtain ⟨hl, ho, hi, hd, hd'⟩ := h
  have hvl : (xs ++ [y] ++ zs).length = n := by have := ho.1; omega
  simp only [List.length_append, List.length_cons, List.length_nil] at hvl
  have up : ∀ i, (xs ++ zs)[i]? = (xs ++ [y] ++ zs)[if i < k then i else i + 1]? := by
    intro i
    by_cases hik : i < k
    · rw [if_pos hik, List.getElem?_append_left (by omega), List.append_assoc, List.getElem?_append_left (by omega)]
    · rw [if_neg hik, List.getElem?_append_right (by omega), List.getElem?_append_right (by simp; omega)]
      rw [show i + 1 - (xs ++ [y]).length = i - xs.length by simp]
  have upl : ∀ i, (ls.take k ++ ls.drop (k + 1)).getD i [] = ls.getD (if i < k then i else i + 1) [] := by
    intro i
    by_cases hik : i < k
    · rw [if_pos hik]
      simp only [List.getD]
      rw [List.getElem?_append_left (by simp; omega)]
      simp [hik]
    · rw [if_neg hik]
      simp only [List.getD]
      rw [List.getElem?_append_right (by simp; omega)]
      simp only [List.getElem?_drop, List.length_take]
      congr 2
      omega
  refine ⟨by simp; omega, xs ++ zs, ho', fun i hlt => ?_, ?_, ?_⟩
  · obtain ⟨x, h1, h2⟩ := hi (if i < k then i else i + 1) (by split <;> omega)
    refine ⟨x, by rw [up]; exact h1, ?_⟩
    rw [upl]
    refine owns_grown h2 hg fun g' hg' he => ?_
    simp at he
    subst he
    exact hd' _ x _ h1 rfl hg'
  · intro i j x z g' hij hx' hz'
    rw [up] at hx' hz'
    exact hd _ _ x z g' (by split <;> split <;> omega) hx' hz'
  · intro i x g' hx' hv
    rw [up] at hx'
    simp [Value.ownBlock] at hv
    subst hv
    exact hd' _ x _ hx' rfl

theorem deleteR_n (B g cap i r L M : Nat) (xs ys zs : List Value) (w : World) (hL : L = i + 1 + r) (hM : M = i + r) (hown : w.ownsRow B 42 3 (.slice (some ⟨g, 0, none⟩) L cap) L (xs ++ ys ++ zs)) (hx : xs.length = i * 3) (hy : ys.length = 3) (h1 : ∀ u ∈ zs, u.oneCell' = true) (hn : L ≤ 1048576) :
    Calls Try.prog 72 #[.slice (some ⟨g, 0, none⟩) L cap, .int .i64 i, .int .i64 ((i : Int) + 1)] w fun e w' => e = .returned (.slice (some ⟨g, 0, none⟩) M cap) ∧ w'.ownsRow B 42 3 (.slice (some ⟨g, 0, none⟩) M cap) M (xs ++ zs) ∧ w.grownBy w' (some g) := by
  subst hL hM
  exact deleteR_any B g cap i r xs ys zs w hown hx hy h1 hn
theorem deleteL_n (B g cap i r L M : Nat) (xs ys zs : List Value) (w : World) (hL : L = i + 1 + r) (hM : M = i + r) (hown : w.ownsRow B 59 1 (.slice (some ⟨g, 0, none⟩) L cap) L (xs ++ ys ++ zs)) (hx : xs.length = i * 1) (hy : ys.length = 1) (h1 : ∀ u ∈ zs, u.oneCell' = true) (hn : L ≤ 1048576) :
    Calls Try.prog 73 #[.slice (some ⟨g, 0, none⟩) L cap, .int .i64 i, .int .i64 ((i : Int) + 1)] w fun e w' => e = .returned (.slice (some ⟨g, 0, none⟩) M cap) ∧ w'.ownsRow B 59 1 (.slice (some ⟨g, 0, none⟩) M cap) M (xs ++ zs) ∧ w.grownBy w' (some g) := by
  subst hL hM
  exact deleteL_any B g cap i r xs ys zs w hown hx hy h1 hn
theorem rcells_split (l : List Ch.Row) (j : Nat) (h : j < l.length) : rcells l = rcells (l.take j) ++ rcells [l.getD j Ch.Row.zero] ++ rcells (l.drop (j + 1)) := by
  rw [← rcells_append, ← rcells_append]
  congr 1
  conv => lhs; rw [Ch.split_at l Ch.Row.zero j h]
  simp
theorem inner_one {w : World} {B n : Nat} {v : Value} {vs : List Value} {ls : List (List Ch.Row)} (h : OwnV w B v n vs ls) : ∀ u ∈ vs, u.oneCell' = true := by
  intro u hu
  obtain ⟨k, hk, rfl⟩ := List.getElem_of_mem hu
  obtain ⟨hl, ho, hi, _⟩ := h
  have hvl : vs.length = n := by have := ho.1; omega
  obtain ⟨x, h1, h2⟩ := hi k (by omega)
  obtain ⟨ai, ci, rfl⟩ := owns_shape h2
  rw [List.getElem?_eq_getElem hk] at h1
  simp only [Option.some.injEq] at h1
  rw [h1]; rfl

set_option linter.unusedSimpArgs false in
set_option maxHeartbeats 4000000 in
theorem implDropRow_any (a : Option Addr) (n cap : Nat) (key : Int) (ls : List (List Ch.Row)) (w : World) (h : LvAt w a n ls) (hs : Ch.lvSize ls ≤ 1048576) :
    Calls Try.prog 23 #[.slice a n cap, .int .i64 key] w fun e w' => ∃ a' m c', e = .returned (.agg #[.int .i64 (Ch.dropR ls key).1, .slice a' m c']) ∧ OwnLv w' w.heap.size (.slice a' m c') m (Ch.dropR ls key).2 ∧ Below w.heap.size w w' := by
  have HL := h.len
  have b0 : ∀ t, Below w.heap.size w ((w.alloc (.cells #[.int .i64 0, .slice none 0 0] 46)).alloc (.cells #[.int .i64 key] t)) := fun t => Below.alloc (Below.alloc (Below.refl _ w) (Nat.le_refl _) _) (by simp) _
  cases hc : (Ch.asked ls key != 0)
  · have HG := hid (Ch.asked_good (ls := ls) (key := key) (by simpa using hc))
    have ⟨hk0, hk1⟩ := inB_key HG.out.2
    have HR1 := hid (fun hf => Ch.dropR_none (ls := ls) (key := key) hc hf)
    have HR2 := hid (fun r hf => Ch.dropR_some (ls := ls) (key := key) (r := r) hc hf)
    go_enter Try.func23, Try.ntmps23
    go_wp2_with fail
    refine (implKeys_any a n cap ls _ 1 1 [key] _ (h.below (b0 _)) hs one_key (by omega)).mono ?_
    rintro e w1 ⟨rfl, b1⟩
    obtain ⟨cA, fA⟩ := bcell b1
    have x0 := cA w.heap.size 0 (by simp; omega)
    have x1 := cA w.heap.size 1 (by simp; omega)
    have f0 := fA w.heap.size 0 (by simp; omega)
    have f1 := fA w.heap.size 1 (by simp; omega)
    clear cA fA
    simp [go_sem] at x0 x1 f0 f1
    have hz := lt_of_cell x0
    have bE := (b0 _).trans (b1.mono (b0 _).size)
    rw [askedAll_one]
    generalize Ch.asked ls key = c at *
    go_wp2_with fail
    refine (places_any a n cap ls _ (h.below bE) HG.out.1).mono ?_
    rintro e w2 ⟨N, D, rfl, own, hP, b2⟩
    replace x0 := keep_cell b2 x0
    replace x1 := keep_cell b2 x1
    replace f0 := ((bcell b2).2 w.heap.size 0 hz).trans f0
    replace f1 := ((bcell b2).2 w.heap.size 1 hz).trans f1
    have hz2 := lt_of_cell x0
    have bE2 := bE.trans (b2.mono bE.size)
    clear b1 b2 hc
    cases hf : Ch.findR ls key with
    | none =>
      have HR := hid (HR1.out hf)
      obtain ⟨hh, ha⟩ := hP.none hf
      clear HR1 HR2 hf HG
      go_wp2_with (at_lookup; go_must (refine wpList_look _ _ w1.heap.size N D key 0 0 false rfl rfl rfl rfl own hk0 hk1 hh ha ?_))
      refine bodyPost_ret (v := .agg #[.int .i64 4, .slice none 0 0]) (by simp [results, Try.results23, go_sem, x0, x1, hz2]) rfl ⟨none, 0, 0, by rw [HR.out], by rw [HR.out]; exact OwnLv.nil _ _, ?_⟩
      exact Below.alloc ((bE2.setCell (p := ⟨w.heap.size, 0, none⟩) (Nat.le_refl _) _).setCell (p := ⟨w.heap.size, 1, none⟩) (Nat.le_refl _) _) (by simp; omega) _
    | some row =>
      have HR := hid (HR2.out row hf)
      obtain ⟨i, j, hi, hj, hra, hrk, hh, ha⟩ := hP.some hf
      have HK : Hid (Ch.keyAt ls i j = key) := by show _ = _; unfold Ch.keyAt; rw [hra]; exact hrk
      have HDI := hid (Ch.drop_is HG.out.1 hi hj HK.out)
      have hin : i < n := by have := HL.out; omega
      have hg := Ch.good_at HL HG.out.1
      have hn60 : n ≤ 60 := by have := Ch.good_len HG.out.1; have := HL.out; omega
      have hl4 := (Ch.allFit_of_page (Ch.good_leaf HG.out.1 i hi).2).2
      clear HR1 HR2 hf HG hra hrk HK hP
      go_wp2_with (at_lookup; go_must (refine wpList_look _ _ w1.heap.size N D key i j true rfl rfl rfl rfl own hk0 hk1 hh ha ?_))
      refine (cloneLeaves_any a n cap ls _ (h.below (bE2.alloc bE2.size _)) hs hg (by omega)).mono ?_
      rintro e w3 ⟨g, c3, rfl, own3, b3⟩
      have p0 := box_cell b3 0
      have p1 := box_cell b3 1
      simp at p0 p1
      have b3w := below_box b3
      replace x0 := keep_cell b3w x0
      replace x1 := keep_cell b3w x1
      replace f0 := ((bcell b3w).2 w.heap.size 0 hz2).trans f0
      replace f1 := ((bcell b3w).2 w.heap.size 1 hz2).trans f1
      have bE3 := bE2.trans (b3w.mono bE2.size)
      have hz3 := lt_of_cell x0
      have hp := lt_of_cell p0
      have zw := bE2.size
      simp only [World.alloc, Array.size_push] at own3
      clear b3 b3w bE2 own hh ha
      obtain ⟨vs, hV⟩ := own3.told
      have hone := inner_one hV
      obtain ⟨b, ai, ci, hbe, hbl, cg, hvk, ho, _⟩ := hV.leafAt hin
      simp only [Option.some.injEq, Addr.mk.injEq, and_true] at hbe
      subst hbe
      have Lg := owns_bounds hV.2.1
      have hgi0 := hV.2.2.2.2 i _ g hvk rfl
      have hvl : vs.length = n := by have := hV.2.1.1; omega
      generalize hl : ls.getD i [] = l at *
      generalize hL : l.length = L at *
      rcases ho.2 with ⟨_, h00⟩ | ⟨gi, cp, cur, hv, _⟩
      · omega
      simp only [Value.slice.injEq, true_and] at hv
      obtain ⟨rfl, rfl⟩ := hv
      have Lgi := owns_bounds ho
      have hp6 : some gi ≠ some w2.heap.size := by simp; omega
      have hgi : some gi ≠ some g := hgi0
      obtain ⟨r, hLr⟩ : ∃ r, L = j + 1 + r := ⟨L - (j + 1), by omega⟩
      obtain ⟨M, hMr⟩ : ∃ M, M = j + r := ⟨_, rfl⟩
      have ownD := ho
      rw [rcells_split l j (by omega)] at ownD
      have ownE : w3.drew.ownsRow (w2.heap.size + 1) 42 3 (.slice (some ⟨gi, 0, none⟩) L ci) L (rcells (l.take j) ++ rcells [l.getD j Ch.Row.zero] ++ rcells (l.drop (j + 1))) := ownD
      have hlM : (l.take j ++ l.drop (j + 1)).length = M := by simp; omega
      have hwj : IntKind.i64.wrap ((j : Int) + 1) = (j : Int) + 1 := IntWalk.i64_in _ ⟨by omega, by omega⟩
      have hwi : IntKind.i64.wrap ((i : Int) + 1) = (i : Int) + 1 := IntWalk.i64_in _ ⟨by omega, by omega⟩
      have hL6 : L ≤ 1048576 := by omega
      have HLr := hid hLr
      have HMr := hid hMr
      have HjL : Hid ((rcells (l.take j)).length = j * 3) := by show _ = _; rw [rcells_len]; simp; omega
      have hM4 : M ≤ 4 := by omega
      clear hLr hMr
      go_upto_region 8 with fail
      refine wp_region_noPanic ?_
      refine wp_region_held_drew (S := fun W' => W'.cell? ⟨w2.heap.size, 0, none⟩ = some (.int .i64 i) ∧ W'.cell? ⟨w2.heap.size, 1, none⟩ = some (.int .i64 j) ∧ W'.cell? ⟨g, i, none⟩ = some (.slice (some ⟨gi, 0, none⟩) L ci)) (by kernel_rfl) (⟨p0, p1, cg⟩) (fun hH => ?_)
      refine hTake (i := 0) (v := ?_) rfl (by kernel_rfl) (by kernel_rfl) (by kernel_rfl) (by rfl) ?_ hH ?_
      rotate_left
      · intro W hW; (try dsimp only at hW); go_simp <;> with_reducible rfl
      simp only [Act.put, List.setIfInBounds_toArray, List.set_cons_zero, List.set_cons_succ]
      refine hTake (i := 1) (v := ?_) rfl (by kernel_rfl) (by kernel_rfl) (by kernel_rfl) (by rfl) ?_ hH ?_
      rotate_left
      · intro W hW; (try dsimp only at hW); go_simp <;> with_reducible rfl
      simp only [Act.put, List.setIfInBounds_toArray, List.set_cons_zero, List.set_cons_succ]
      refine hTake (i := 2) (v := ?_) rfl (by kernel_rfl) (by kernel_rfl) (by kernel_rfl) (by rfl) ?_ hH ?_
      rotate_left
      · intro W hW; (try dsimp only at hW); go_simp <;> with_reducible rfl
      simp only [Act.put, List.setIfInBounds_toArray, List.set_cons_zero, List.set_cons_succ]
      refine hTake (i := 3) (v := ?_) rfl (by kernel_rfl) (by kernel_rfl) (by kernel_rfl) (by rfl) ?_ hH ?_
      rotate_left
      · intro W hW; (try dsimp only at hW); go_simp <;> with_reducible rfl
      simp only [Act.put, List.setIfInBounds_toArray, List.set_cons_zero, List.set_cons_succ]
      refine hTake (i := 4) (v := ?_) rfl (by kernel_rfl) (by kernel_rfl) (by kernel_rfl) (by rfl) ?_ hH ?_
      rotate_left
      · intro W hW; (try dsimp only at hW); go_simp <;> with_reducible rfl
      simp only [Act.put, List.setIfInBounds_toArray, List.set_cons_zero, List.set_cons_succ]
      refine hTake (i := 5) (v := ?_) rfl (by kernel_rfl) (by kernel_rfl) (by kernel_rfl) (by rfl) ?_ hH ?_
      rotate_left
      · intro W hW; (try dsimp only at hW); go_simp <;> with_reducible rfl
      simp only [Act.put, List.setIfInBounds_toArray, List.set_cons_zero, List.set_cons_succ]
      refine hTake (i := 6) (v := ?_) rfl (by kernel_rfl) (by kernel_rfl) (by kernel_rfl) (by rfl) ?_ hH ?_
      rotate_left
      · intro W hW; (try dsimp only at hW); go_simp <;> with_reducible rfl
      simp only [Act.put, List.setIfInBounds_toArray, List.set_cons_zero, List.set_cons_succ]
      refine hTake (i := 7) (v := ?_) rfl (by kernel_rfl) (by kernel_rfl) (by kernel_rfl) (by rfl) ?_ hH ?_
      rotate_left
      · intro W hW; (try dsimp only at hW); go_simp <;> with_reducible rfl
      simp only [Act.put, List.setIfInBounds_toArray, List.set_cons_zero, List.set_cons_succ]
      refine hTake (i := 8) (v := ?_) rfl (by kernel_rfl) (by kernel_rfl) (by kernel_rfl) (by rfl) ?_ hH ?_
      rotate_left
      · intro W hW; (try dsimp only at hW); go_simp <;> with_reducible rfl
      simp only [Act.put, List.setIfInBounds_toArray, List.set_cons_zero, List.set_cons_succ]
      refine hTake (i := 9) (v := ?_) rfl (by kernel_rfl) (by kernel_rfl) (by kernel_rfl) (by rfl) ?_ hH ?_
      rotate_left
      · intro W hW; (try dsimp only at hW); go_simp <;> with_reducible rfl
      simp only [Act.put, List.setIfInBounds_toArray, List.set_cons_zero, List.set_cons_succ]
      refine hTake (i := 10) (v := ?_) rfl (by kernel_rfl) (by kernel_rfl) (by kernel_rfl) (by rfl) ?_ hH ?_
      rotate_left
      · intro W hW; (try dsimp only at hW); go_simp <;> with_reducible rfl
      simp only [Act.put, List.setIfInBounds_toArray, List.set_cons_zero, List.set_cons_succ]
      refine wpAnyH_ready (rs := [11]) (by kernel_rfl) (by simp) ?_
      refine AllReadyH.cons rfl (fun K hK => ?_) AllReadyH.nil
      go_simp
      refine (deleteR_n (w2.heap.size + 1) gi ci j r L M (rcells (l.take j)) (rcells [l.getD j Ch.Row.zero]) (rcells (l.drop (j + 1))) w3.drew HLr.out HMr.out ownE HjL.out rfl (rcells_one _) hL6).mono ?_
      rintro e w4 ⟨rfl, own4, gr4⟩
      go_wp2_with fail
      refine hK.out _ _ ?_ (fun hH => ?_)
      · exact ⟨grown_cell gr4 hH.1 hp6, grown_cell gr4 hH.2.1 hp6, grown_cell gr4 hH.2.2 hgi⟩
      clear hK K
      refine hTake (i := 12) (v := ?_) rfl (by kernel_rfl) (by kernel_rfl) (by kernel_rfl) (by rfl) ?_ hH ?_
      rotate_left
      · intro W hW; (try dsimp only at hW); go_simp <;> with_reducible rfl
      simp only [Act.put, List.setIfInBounds_toArray, List.set_cons_zero, List.set_cons_succ]
      refine wpAnyH_done (by kernel_rfl) ?_ _
      refine NoPanic.normal ?_
      clear hH
      have own4' : w4.ownsRow (w2.heap.size + 1) 42 3 (.slice (some ⟨gi, 0, none⟩) M ci) (l.take j ++ l.drop (j + 1)).length (rcells (l.take j ++ l.drop (j + 1))) := by rw [hlM, rcells_append]; exact own4
      have gr4' : w3.grownBy w4 (some gi) := ⟨gr4.os, gr4.tape, gr4.output, gr4.size, gr4.block⟩
      replace x0 := grown_cell gr4' x0 (by simp; omega)
      replace x1 := grown_cell gr4' x1 (by simp; omega)
      replace f0 := (World.grownBy.frozen_far gr4' ⟨w.heap.size, 0, none⟩ hz3 (by simp; omega)).trans f0
      replace f1 := (World.grownBy.frozen_far gr4' ⟨w.heap.size, 1, none⟩ hz3 (by simp; omega)).trans f1
      replace p0 := grown_cell gr4' p0 hp6
      have cg4 := grown_cell gr4' cg hgi
      have fg4 := (owns_grown hV.2.1 gr4' (fun g' hg' e => hgi (by simp [Value.ownBlock] at hg'; rw [hg']; exact e))).frozenAt i
      have V5 := hV.cut (x' := .slice (some ⟨gi, 0, none⟩) M ci) hin hvk gr4' rfl own4'
      have bE4 := bE3.grown gr4' bE3.size (fun k hk => by simp at hk; omega)
      have hz4 := lt_of_cell x0
      have hp4 := lt_of_cell p0
      have hg4 := lt_of_cell cg4
      by_cases hM0 : M = 0
      · subst hM0
        have HD : Hid (Ch.drop ls key = ls.take i ++ ls.drop (i + 1)) := by
          show _ = _
          rw [HDI.out, if_pos (by have := HLr.out; have := HMr.out; omega)]
          simp
        obtain ⟨r2, hnr⟩ : ∃ r2, n = i + 1 + r2 := ⟨n - (i + 1), by omega⟩
        have HNr := hid hnr
        have hset : vs.set i (.slice (some ⟨gi, 0, none⟩) 0 ci) = vs.take i ++ [.slice (some ⟨gi, 0, none⟩) 0 ci] ++ vs.drop (i + 1) := by
          rw [List.set_eq_take_append_cons_drop, if_pos (by omega)]
          simp
        rw [hset] at V5
        have hlt : (ls.set i (l.take j ++ l.drop (j + 1))).take i ++ (ls.set i (l.take j ++ l.drop (j + 1))).drop (i + 1) = ls.take i ++ ls.drop (i + 1) := by
          rw [List.take_set, List.set_eq_of_length_le (by simp; omega), List.drop_set, if_pos (by omega)]
        have HT := hid hlt
        have hvt : (vs.take i).length = i := by simp; omega
        have hone2 : ∀ u ∈ vs.drop (i + 1), u.oneCell' = true := fun u hu => hone u (List.mem_of_mem_drop hu)
        clear HDI hnr hset hlt
        go_wp2_with fail
        refine (deleteL_n (w2.heap.size + 1) g c3 i r2 n (i + r2) (vs.take i) [.slice (some ⟨gi, 0, none⟩) 0 ci] (vs.drop (i + 1)) _ HNr.out rfl V5.2.1 (by omega) rfl hone2 (by omega)).mono ?_
        rintro e w6 ⟨rfl, own6, gr6⟩
        have V6 := V5.out HNr.out hvt gr6 own6
        rw [HT.out] at V6
        have bE5 := bE4.setCell (p := ⟨g, i, none⟩) (by simp; omega) (.slice (some ⟨gi, 0, none⟩) 0 ci)
        have bE6 := bE5.grown gr6 bE5.size (fun k hk => by simp at hk; omega)
        have hz5 : w.heap.size < (w4.setCell ⟨g, i, none⟩ (.slice (some ⟨gi, 0, none⟩) 0 ci)).heap.size := by simp; omega
        have y0 : (w4.setCell ⟨g, i, none⟩ (.slice (some ⟨gi, 0, none⟩) 0 ci)).cell? ⟨w.heap.size, 0, none⟩ = some (.int .i64 0) := (World.cell?_setCell_other _ _ _ _ (fun e => by simp at e)).trans x0
        have y1 : (w4.setCell ⟨g, i, none⟩ (.slice (some ⟨gi, 0, none⟩) 0 ci)).cell? ⟨w.heap.size, 1, none⟩ = some (.slice none 0 0) := (World.cell?_setCell_other _ _ _ _ (fun e => by simp at e)).trans x1
        have q0 : (w4.setCell ⟨g, i, none⟩ (.slice (some ⟨gi, 0, none⟩) 0 ci)).frozen? ⟨w.heap.size, 0, none⟩ = false := (World.frozen?_setCell _ _ _ _).trans f0
        have q1 : (w4.setCell ⟨g, i, none⟩ (.slice (some ⟨gi, 0, none⟩) 0 ci)).frozen? ⟨w.heap.size, 1, none⟩ = false := (World.frozen?_setCell _ _ _ _).trans f1
        have x0 := grown_cell gr6 y0 (by simp; omega)
        have x1 := grown_cell gr6 y1 (by simp; omega)
        have f0 := (World.grownBy.frozen_far gr6 ⟨w.heap.size, 0, none⟩ hz5 (by simp; omega)).trans q0
        have f1 := (World.grownBy.frozen_far gr6 ⟨w.heap.size, 1, none⟩ hz5 (by simp; omega)).trans q1
        clear y0 y1 q0 q1 V5
        generalize i + r2 = m2 at *
        go_wp2
        refine bodyPost_ret (v := .agg #[.int .i64 0, .slice (some ⟨g, 0, none⟩) m2 c3]) (by simp [results, Try.results23, go_sem, x0, x1]) rfl ⟨_, m2, c3, by rw [HR.out], ?_, ?_⟩
        · rw [HR.out, HD.out]
          exact ((V6.box (by omega) _).box (by omega) _).base (by omega)
        · exact (bE6.setCell (p := ⟨w.heap.size, 0, none⟩) (Nat.le_refl _) _).setCell (p := ⟨w.heap.size, 1, none⟩) (Nat.le_refl _) _
      · have hM1 : ((M : Int) == 0) = false := by simpa using hM0
        have HD : Hid (Ch.drop ls key = ls.set i (l.take j ++ l.drop (j + 1))) := by
          show _ = _
          rw [HDI.out, if_neg (by have := HLr.out; have := HMr.out; omega), List.set_eq_take_append_cons_drop, if_pos hi]
          simp
        clear HDI
        go_wp2
        refine bodyPost_ret (v := .agg #[.int .i64 0, .slice (some ⟨g, 0, none⟩) n c3]) (by simp [results, Try.results23, go_sem, x0, x1]) rfl ⟨_, n, c3, by rw [HR.out], ?_, ?_⟩
        · rw [HR.out, HD.out]
          exact ((V5.own.box (by omega) _).box (by omega) _).base (by omega)
        · exact ((bE4.setCell (p := ⟨g, i, none⟩) (by simp; omega) _).setCell (p := ⟨w.heap.size, 0, none⟩) (Nat.le_refl _) _).setCell (p := ⟨w.heap.size, 1, none⟩) (Nat.le_refl _) _
  · rw [Ch.dropR_code hc]
    go_enter Try.func23, Try.ntmps23
    go_wp2_with fail
    refine (implKeys_any a n cap ls _ 1 1 [key] _ (h.below (b0 _)) hs one_key (by omega)).mono ?_
    rintro e w1 ⟨rfl, b1⟩
    obtain ⟨cA, fA⟩ := bcell b1
    have x0 := cA w.heap.size 0 (by simp; omega)
    have x1 := cA w.heap.size 1 (by simp; omega)
    have f0 := fA w.heap.size 0 (by simp; omega)
    have f1 := fA w.heap.size 1 (by simp; omega)
    clear cA fA
    simp [go_sem] at x0 x1 f0 f1
    have hz := lt_of_cell x0
    have bE := (b0 _).trans (b1.mono (b0 _).size)
    rw [askedAll_one]
    generalize hq : Ch.asked ls key = c at *
    go_wp2
    exact bodyPost_ret (v := .agg #[.int .i64 c, .slice none 0 0]) (by simp [results, Try.results23, go_sem, x0, x1]) rfl ⟨none, 0, 0, by rw [hq], OwnLv.nil _ _, (bE.setCell (p := ⟨w.heap.size, 0, none⟩) (Nat.le_refl _) _).setCell (p := ⟨w.heap.size, 1, none⟩) (Nat.le_refl _) _⟩
end Go.Proofs.Ytofhkncdjjlllaa
