
/- splitLeaf of the program. -/
import Derived.Test.YtjjbjdjkcckgmaaPutD
import Derived.Test.YtjjbjdjkcckgmaaDropI
namespace Go.Proofs.Ytjjbjdjkcckgmaa
open Go.RowKit

/-- One list is grown, in its own block or in a new one, and put back. -/
theorem OwnV.redo {w w' : World} {B g n cap k : Nat} {vs : List Value} {ls : List (List Ch.Row)} {x x' : Value} {l' : List Ch.Row} (h : OwnV w B (.slice (some ⟨g, 0, none⟩) n cap) n vs ls) (hk : k < n) (hx : vs[k]? = some x) (hg : w.grownBy w' x.ownBlock) (hb : ∀ q, x'.ownBlock = some q → x.ownBlock = some q ∨ w.heap.size ≤ q)
    (ho' : w'.ownsRow B 49 3 x' l'.length (rcells l')) : OwnV (w'.setCell ⟨g, k, none⟩ x') B (.slice (some ⟨g, 0, none⟩) n cap) n (vs.set k x') (ls.set k l') := by
  have hlt := h.lt
  obtain ⟨hl, ho, hi, hd, hd'⟩ := h
  have hgl := (owns_lt ho g rfl).2
  have hvl : vs.length = n := by have := ho.1; omega
  have ho1 := owns_grown ho hg (fun g' hg' e => hd' k x g' hx hg' e)
  have hst := ho1.stored k x'
  have get : ∀ (i : Nat) (y : Value), (vs.set k x')[i]? = some y → (i = k ∧ y = x') ∨ (i ≠ k ∧ vs[i]? = some y) := by
    intro i y hy
    by_cases hik : k = i
    · subst hik
      rw [List.getElem?_set_self (by omega)] at hy
      cases hy
      exact .inl ⟨rfl, rfl⟩
    · rw [List.getElem?_set_ne hik] at hy
      exact .inr ⟨fun e => hik e.symm, hy⟩
  have far : ∀ (i : Nat) (y : Value) (q : Nat), i ≠ k → vs[i]? = some y → y.ownBlock = some q → x'.ownBlock ≠ some q := by
    intro i y q hne hy hyq hxq
    have h1 := hlt i y q hy hyq
    rcases hb q hxq with h2 | h2
    · rcases Nat.lt_or_gt_of_ne hne with h3 | h3
      · exact hd i k y x q h3 hy hx hyq h2
      · exact hd k i x y q h3 hx hy h2 hyq
    · omega
  have farg : x'.ownBlock ≠ some g := by
    intro hxq
    rcases hb g hxq with h2 | h2
    · exact hd' k x g hx rfl h2
    · omega
  refine ⟨by simpa using hl, hst.1, fun i hlt' => ?_, ?_, ?_⟩
  · by_cases hik : k = i
    · subst hik
      refine ⟨x', by simp [hvl, hk], ?_⟩
      have e : (ls.set k l').getD k [] = l' := by simp [List.getD, hl, hk]
      rw [e]
      refine owns_grown ho' hst.2 fun g' hg' he => ?_
      simp at he
      subst he
      exact farg hg'
    · obtain ⟨y, h1, h2⟩ := hi i hlt'
      refine ⟨y, by rw [List.getElem?_set_ne hik]; exact h1, ?_⟩
      have e : (ls.set k l').getD i [] = ls.getD i [] := by simp [List.getD, hik]
      rw [e]
      refine owns_grown (owns_grown h2 hg fun g' hg' e => ?_) hst.2 fun g' hg' he => ?_
      · rcases Nat.lt_or_gt_of_ne hik with hlt' | hgt
        · exact hd k i x y g' hlt' hx h1 e hg'
        · exact hd i k y x g' hgt h1 hx hg' e
      · simp at he
        subst he
        exact hd' i y _ h1 rfl hg'
  · intro i j y z g' hij hy hz hyg hzg
    rcases get i y hy with ⟨h1, rfl⟩ | ⟨h1, h2⟩
    · rcases get j z hz with ⟨h3, rfl⟩ | ⟨h3, h4⟩
      · omega
      · exact far j z g' h3 h4 hzg hyg
    · rcases get j z hz with ⟨h3, rfl⟩ | ⟨h3, h4⟩
      · exact far i y g' h1 h2 hyg hzg
      · exact hd i j y z g' hij h2 h4 hyg hzg
  · intro i y g' hy hv hyg
    simp [Value.ownBlock] at hv
    subst hv
    rcases get i y hy with ⟨h1, rfl⟩ | ⟨h1, h2⟩
    · exact farg hyg
    · exact hd' i y _ h2 rfl hyg

/-- A new leaf is put in between. -/
theorem OwnV.ins {w0 W w2 : World} {B g n cap g' c' i : Nat} {vs : List Value} {ls : List (List Ch.Row)} {x : Value} {l : List Ch.Row} (h : OwnV w0 B (.slice (some ⟨g, 0, none⟩) n cap) n vs ls) (hb : Below w0.heap.size w0 W)
    (hx : W.ownsRow w0.heap.size 49 3 x l.length (rcells l)) (hB : B ≤ w0.heap.size) (hi' : i ≤ n)
    (h2 : w2.ownsRow B 65 1 (.slice (some ⟨g', 0, none⟩) (n + 1) c') (n + 1) (vs.take i ++ [x] ++ vs.drop i)) (hg : W.grownBy w2 (some g)) (hat : g' = g ∨ W.heap.size ≤ g') : OwnLv w2 B (.slice (some ⟨g', 0, none⟩) (n + 1) c') (n + 1) (ls.take i ++ [l] ++ ls.drop i) := by
  have hlt := h.lt
  obtain ⟨hl, ho, hi, hd, hd'⟩ := h
  have hvl : vs.length = n := by have := ho.1; omega
  have hsz := hb.size
  have Lx := owns_lt hx
  have hgl := (owns_lt ho g rfl).2
  have get : ∀ j, (vs.take i ++ [x] ++ vs.drop i)[j]? = if j < i then vs[j]? else if j = i then some x else vs[j - 1]? := by
    intro j
    have htl : (vs.take i).length = i := by simp; omega
    rcases Nat.lt_trichotomy j i with h | h | h
    · rw [if_pos h, List.append_assoc, List.getElem?_append_left (by omega), List.getElem?_take, if_pos h]
    · subst h
      rw [if_neg (by omega), if_pos rfl, List.append_assoc, List.getElem?_append_right (by omega), htl]
      simp
    · rw [if_neg (by omega), if_neg (by omega), List.getElem?_append_right (by simp; omega), List.getElem?_drop]
      simp only [List.length_append, htl, List.length_cons, List.length_nil]
      congr 1; omega
  have getl : ∀ j, (ls.take i ++ [l] ++ ls.drop i).getD j [] = if j < i then ls.getD j [] else if j = i then l else ls.getD (j - 1) [] := by
    intro j
    have htl : (ls.take i).length = i := by simp; omega
    simp only [List.getD]
    rcases Nat.lt_trichotomy j i with h | h | h
    · rw [if_pos h, List.append_assoc, List.getElem?_append_left (by omega), List.getElem?_take, if_pos h]
    · subst h
      rw [if_neg (by omega), if_pos rfl, List.append_assoc, List.getElem?_append_right (by omega), htl]
      simp
    · rw [if_neg (by omega), if_neg (by omega), List.getElem?_append_right (by simp; omega), List.getElem?_drop]
      simp only [List.length_append, htl, List.length_cons, List.length_nil]
      congr 2; omega
  have tell : ∀ (j : Nat) (y : Value), (vs.take i ++ [x] ++ vs.drop i)[j]? = some y → (j = i ∧ y = x) ∨ (j ≠ i ∧ vs[if j < i then j else j - 1]? = some y) := by
    intro j y hy
    rw [get] at hy
    by_cases h1 : j < i
    · rw [if_pos h1] at hy
      exact .inr ⟨by omega, by rw [if_pos h1]; exact hy⟩
    · rw [if_neg h1] at hy
      by_cases h2 : j = i
      · rw [if_pos h2] at hy
        exact .inl ⟨h2, by simpa using hy.symm⟩
      · rw [if_neg h2] at hy
        exact .inr ⟨h2, by rw [if_neg h1]; exact hy⟩
  refine ⟨by simp; omega, _, h2, fun j hj => ?_, ?_, ?_⟩
  · rw [get, getl]
    by_cases h2 : j = i
    · subst h2
      rw [if_neg (by omega), if_pos rfl, if_neg (by omega), if_pos rfl]
      exact ⟨x, rfl, owns_base (owns_grown hx hg fun q hq e => by
        have := Lx q hq
        simp at e
        omega) hB⟩
    · have : ∃ jj, jj < n ∧ (if j < i then vs[j]? else if j = i then some x else vs[j - 1]?) = vs[jj]? ∧ (if j < i then ls.getD j [] else if j = i then l else ls.getD (j - 1) []) = ls.getD jj [] := by
        by_cases h1 : j < i
        · exact ⟨j, by omega, by rw [if_pos h1], by rw [if_pos h1]⟩
        · exact ⟨j - 1, by omega, by rw [if_neg h1, if_neg h2], by rw [if_neg h1, if_neg h2]⟩
      obtain ⟨jj, hjj, e1, e2⟩ := this
      rw [e1, e2]
      obtain ⟨y, h3, h4⟩ := hi jj hjj
      refine ⟨y, h3, owns_grown (owns_below h4 hb) hg fun q hq e => ?_⟩
      simp at e
      subst e
      exact hd' jj y _ h3 rfl hq
  · intro j1 j2 y z q hj hy hz hyq hzq
    rcases tell j1 y hy with ⟨h3, rfl⟩ | ⟨h3, h4⟩
    · rcases tell j2 z hz with ⟨h5, rfl⟩ | ⟨h5, h6⟩
      · omega
      · have := hlt _ z q h6 hzq
        have := Lx q hyq
        omega
    · rcases tell j2 z hz with ⟨h5, rfl⟩ | ⟨h5, h6⟩
      · have := hlt _ y q h4 hyq
        have := Lx q hzq
        omega
      · exact hd _ _ y z q (by split <;> split <;> omega) h4 h6 hyq hzq
  · intro j y q hy hv hyq
    simp [Value.ownBlock] at hv
    subst hv
    rcases tell j y hy with ⟨h3, rfl⟩ | ⟨h3, h4⟩
    · have := Lx g' hyq
      rcases hat with h5 | h5 <;> omega
    · have := hlt _ y g' h4 hyq
      rcases hat with h5 | h5
      · subst h5; exact hd' _ y _ h4 rfl hyq
      · omega

theorem Ch.split_is (ls : List (List Ch.Row)) (k : Nat) (l1 l2 : List Ch.Row) (h : k < ls.length) : (ls.set k l1).take (k + 1) ++ [l2] ++ (ls.set k l1).drop (k + 1) = ls.take k ++ [l1, l2] ++ ls.drop (k + 1) := by
  rw [List.drop_set, if_pos (by omega), List.take_add_one, List.take_set, List.set_eq_of_length_le (by simp; omega)]
  simp [h]

set_option maxHeartbeats 4000000 in
theorem splitLeaf_any (B g n cap k : Nat) (ls : List (List Ch.Row)) (w : World) (h : OwnLv w B (.slice (some ⟨g, 0, none⟩) n cap) n ls) (hk : k < n) (hn : n ≤ 1048576) (hB : B ≤ w.heap.size) (h2 : 2 ≤ (ls.getD k []).length) (h9 : (ls.getD k []).length ≤ 1048576) :
    Calls Try.prog 38 #[.slice (some ⟨g, 0, none⟩) n cap, .int .i64 k] w fun e w' => ∃ g' c', e = .returned (.slice (some ⟨g', 0, none⟩) (n + 1) c') ∧ OwnLv w' B (.slice (some ⟨g', 0, none⟩) (n + 1) c') (n + 1) (ls.take k ++ [(ls.getD k []).take ((ls.getD k []).length / 2), (ls.getD k []).drop ((ls.getD k []).length / 2)] ++ ls.drop (k + 1)) ∧ Below B w w' := by
  have hll := h.1
  obtain ⟨vs, hV⟩ := h.told
  obtain ⟨b, ai, ci, hbe, hbl, cg, hvk, ho, _⟩ := hV.leafAt hk
  simp only [Option.some.injEq, Addr.mk.injEq, and_true] at hbe
  subst hbe
  have hgi0 := hV.2.2.2.2 k _ g hvk rfl
  have Lg := owns_bounds hV.2.1
  have HSp := hid (fun l1 l2 => Ch.split_is ls k l1 l2 (by omega))
  generalize hl : ls.getD k [] = l at *
  generalize hL : l.length = L at *
  rcases ho.2 with ⟨_, h00⟩ | ⟨gi, cp, cur, hv, _⟩
  · omega
  simp only [Value.slice.injEq, true_and] at hv
  obtain ⟨rfl, rfl⟩ := hv
  have Lgi := owns_bounds ho
  have hgi : gi ≠ g := fun e => hgi0 (by rw [← e]; rfl)
  have hcap := owns_capN ho
  have hc := owns_cells ho
  obtain ⟨hf, hhf⟩ : ∃ hf, hf = L / 2 := ⟨_, rfl⟩
  rw [← hhf]
  have hq : (L : Int).tdiv 2 = (hf : Int) := by rw [Int.tdiv_eq_ediv_of_nonneg (by omega)]; omega
  have hh1 : hf ≤ L := by omega
  have hh2 : hf ≤ ci := by omega
  have hh3 : ¬ ci = hf := by omega
  have hh4 : 1 ≤ hf := by omega
  have hh5 : hf < L := by omega
  have hcL := hc.cutL hh1
  have hcR := hc.cutR hh1
  rw [Nat.zero_add] at hcR
  have HLL : Hid ((l.take hf).length = hf) := by show _ = _; simp; omega
  have HLR : Hid ((l.drop hf).length = L - hf) := by show _ = _; simp; omega
  clear hhf hc
  have hwk : IntKind.i64.wrap ((k : Int) + 1) = (k : Int) + 1 := IntWalk.i64_in _ ⟨by omega, by omega⟩
  go_enter Try.func38, Try.ntmps38
  go_wp2_with fail
  refine (cloneRows_any ⟨gi, 0, none⟩ hf ci (l.take hf) w hcL (by omega)).mono ?_
  rintro e w1 ⟨a1, c1, rfl, own1, b1⟩
  have cg1 := keep_cell b1 cg
  have fg1 := (owns_below hV.2.1 b1).frozenAt k
  have hz1 := b1.size
  have hg1 := lt_of_cell cg1
  have own1' : w1.ownsRow w.heap.size 49 3 (.slice a1 hf c1) (l.take hf).length (rcells (l.take hf)) := by rw [HLL.out]; exact own1
  have O2 := h.put b1 own1' hk hB
  have hcR1 := hcR.below b1
  have hcR2 : CellsAt (w1.setCell ⟨g, k, none⟩ (.slice a1 hf c1)) (some ⟨gi, hf * 3, none⟩) ((L - hf) * 3) (rcells (l.drop hf)) :=
    hcR1.grown (row := some g) ⟨rfl, rfl, rfl, by simp [World.setCell], fun q _ hne => Below.heap_setCell _ _ _ _ (by intro e; exact hne (by rw [e]))⟩ (fun b off e e2 => by cases e; simp at e2; exact hgi e2.symm)
  have B2 : Below B w (w1.setCell ⟨g, k, none⟩ (.slice a1 hf c1)) := (b1.mono hB).setCell (p := ⟨g, k, none⟩) Lg.1 _
  have hz2 : (w1.setCell ⟨g, k, none⟩ (.slice a1 hf c1)).heap.size = w1.heap.size := by simp [World.setCell]
  go_wp2_with fail
  refine (cloneRows_any ⟨gi, hf * 3, none⟩ (L - hf) (ci - hf) (l.drop hf) _ hcR2 (by omega)).mono ?_
  rintro e w3 ⟨a3, c3, rfl, own3, b3⟩
  generalize w1.setCell ⟨g, k, none⟩ (.slice a1 hf c1) = w2 at *
  obtain ⟨vs2, hV2⟩ := O2.told
  have hone := inner_one hV2
  have b3' : ∀ o, Below w2.heap.size w2 (w3.alloc o) := fun o => b3.alloc b3.size _
  have own3' : ∀ o, (w3.alloc o).ownsRow w2.heap.size 49 3 (.slice a3 (L - hf) c3) (l.drop hf).length (rcells (l.drop hf)) := fun o => by rw [HLR.out]; exact owns_below own3 ((Below.refl _ _).alloc (Nat.le_refl _) _)
  have hz3 := b3.size
  have hB3 : ∀ o, Below B w (w3.alloc o) := fun o => (B2.trans (b3.mono (by omega))).alloc (by omega) _
  go_wp2_with fail
  refine (insertL_any B g n cap (k + 1) w3.heap.size vs2 [.slice a3 (L - hf) c3] _ (owns_below hV2.2.1 (b3' _)) (heap_newI rfl) rfl (by simp [Value.oneCell']) hone hn (by omega) (by simp; omega) (by omega)).mono ?_
  rintro e w4 ⟨g4, c4, rfl, own4, gr4, at4⟩
  go_wp2
  go_ret
  simp only [Nat.mul_one] at own4
  refine ⟨g4, c4, rfl, ?_, (hB3 _).grown gr4 (by simp; omega) (fun q hq => by simp at hq; omega)⟩
  have := hV2.ins (l := l.drop hf) (b3' _) (own3' _) (by omega) (by omega) own4 gr4 at4
  rw [HSp.out] at this
  exact this
end Go.Proofs.Ytjjbjdjkcckgmaa
