
/- Copies of rows and of leaves: the program's cloneLeaves. -/
import Derived.Test.YtjjbjdjkcckgmaaMarkL
import Derived.Test.YtjjbjdjkcckgmaaScanW
import Derived.Lib.SliceRun
namespace Go.Proofs.Ytjjbjdjkcckgmaa
open Go.RowKit

set_option maxHeartbeats 400000 in
theorem cloneRows_any (ad : Addr) (n cap : Nat) (rs : List Ch.Row) (w : World) (h : CellsAt w (some ad) (n * 3) (rcells rs)) (hn : n ≤ 1048576) :
    Calls Try.prog 19 #[.slice (some ad) n cap] w fun e w' => ∃ a' c', e = .returned (.slice a' n c') ∧ w'.ownsRow w.heap.size 49 3 (.slice a' n c') n (rcells rs) ∧ Below w.heap.size w w' := by
  have hnil := fun W => Lib.run_eql_slice_nil (P := Try.prog) W 25 49 (some ad) n cap 0 0 Try.underlying25
  simp only [Option.isNone_some] at hnil
  have hb0 : Below w.heap.size w (w.alloc (.cells #[] 49)) := (Below.refl _ _).alloc (Nat.le_refl _) _
  have hc := h.below hb0
  have ho := empty_rows w w.heap.size (Nat.le_refl _)
  have hm : 0 + n ≤ 2097152 := by omega
  go_enter Try.func19, Try.ntmps19
  go_wp2_with (at_builtin; go_must (refine wpList_appRs (.tmp 5) (.tmp 6) w.heap.size (.slice (some ⟨w.heap.size, 0, none⟩) 0 0) 0 [] n rs hm ?_ ?_ ?_ ?_ ?_ ?_ ?_; exact rfl; exact rfl; exact rfl; exact ⟨_, _, rfl, hc⟩; exact ho; (focus (simp; done)); intro a1 c1 w1 own1 b1))
  go_ret
  rw [Nat.zero_add] at own1
  exact ⟨a1, c1, rfl, by simpa using own1, hb0.trans b1⟩

/-- Leaves appended to leaves: their lists as they are. -/
theorem wpList_appLv {ops : Array Oper} {rest : List Oper} {o : Oper} {a : Act} {w : World} {Q : Exit → Act → World → Prop} (s x : Operand)
    (B : Nat) (v : Value) (n : Nat) (xs : List Value) (m : Nat) (ys : List Value) (hm : n + m ≤ 2097152) (h1 : ∀ u ∈ ys, u.oneCell' = true)
    (ho : o.op = .call { callee := .builtin .append, args := #[s, x], argTypes := #[26, 26] }) (hgd : o.guard = none)
    (hs : a.eval s = v) (hx : ∃ ad c, a.eval x = .slice (some ad) m c ∧ CellsAt w (some ad) m ys)
    (hown : w.ownsRow B 65 1 v n xs) (hbase : B ≤ w.heap.size)
    (hK : ∀ a' c' w', w'.ownsRow B 65 1 (.slice a' (n + m) c') (n + m) (xs ++ ys) → w.grownBy w' v.ownBlock → (∀ g, (Value.slice a' (n + m) c').ownBlock = some g → v.ownBlock = some g ∨ w.heap.size ≤ g) → wpList Try.prog ops Q rest (a.put o.dst (.slice a' (n + m) c')) w') (hm0 : 0 < m) :
    wpList Try.prog ops Q (o :: rest) a w := by
  obtain ⟨ad, c, hx, hc⟩ := hx
  obtain ⟨i0, hi, hz0, hz1, hz2⟩ := info_parts Try.info65
  refine wpList_append_lies w hgd s x 26 ho B 65 i0 _ 1 24 Try.underlying26 hi hz0 hz1 hz2 rfl (by omega) v n xs hs hown ad m c ys hx (by rw [Nat.mul_one]; exact hc.1) ?_ h1 hm0 (by unfold maxLen; omega) (by omega) hbase _ rfl ?_
  · intro j u hj
    have hjl : j < ys.length := (List.getElem?_eq_some_iff.1 hj).1
    have hl := hc.1
    obtain ⟨b, off, ha, hcc⟩ := hc.2 (by omega)
    simp only [Option.some.injEq] at ha
    subst ha
    have e : (⟨b, off, none⟩ : Addr).add j = ⟨b, off + j, none⟩ := by
      unfold Addr.add
      split
      · next h0 => subst h0; rfl
      · rfl
    rw [e, hcc j (by omega), hj]
  · intro g cp' w' hown' hgrow hat hlt
    refine hK _ _ w' hown' hgrow fun g' hg' => ?_
    simp [Value.ownBlock] at hg'
    subst hg'
    rcases hat with hat | hat
    · exact .inl hat
    · exact .inr (by omega)

theorem empty_leaves (w : World) (B : Nat) (hB : B ≤ w.heap.size) : (w.alloc (.cells #[] 65)).ownsRow B 65 1 (.slice (some ⟨w.heap.size, 0, none⟩) 0 0) 0 [] :=
  World.ownsRow_lit w #[] 0 hB (by unfold maxLen; omega) rfl

set_option maxHeartbeats 400000 in
theorem cloneLeafS_any (ad : Addr) (n cap : Nat) (vs : List Value) (w : World) (h : CellsAt w (some ad) n vs) (h1 : ∀ u ∈ vs, u.oneCell' = true) (hn : n ≤ 1048576) (hn0 : 0 < n) :
    Calls Try.prog 66 #[.slice (some ad) n cap] w fun e w' => ∃ g c', e = .returned (.slice (some ⟨g, 0, none⟩) n c') ∧ w'.ownsRow w.heap.size 65 1 (.slice (some ⟨g, 0, none⟩) n c') n vs ∧ Below w.heap.size w w' := by
  have hnil := fun W => Lib.run_eql_slice_nil (P := Try.prog) W 26 65 (some ad) n cap 0 0 Try.underlying26
  simp only [Option.isNone_some] at hnil
  have hb0 : Below w.heap.size w (w.alloc (.cells #[] 65)) := (Below.refl _ _).alloc (Nat.le_refl _) _
  have hc := h.below hb0
  have ho := empty_leaves w w.heap.size (Nat.le_refl _)
  have hm : 0 + n ≤ 2097152 := by omega
  go_enter Try.func66, Try.ntmps66
  go_wp2_with (at_builtin; go_must (refine wpList_appLv (.tmp 5) (.tmp 6) w.heap.size (.slice (some ⟨w.heap.size, 0, none⟩) 0 0) 0 [] n vs hm h1 ?_ ?_ ?_ ?_ ?_ ?_ ?_ hn0; exact rfl; exact rfl; exact rfl; exact ⟨_, _, rfl, hc⟩; exact ho; (focus (simp; done)); intro a1 c1 w1 own1 gr1 at1))
  go_ret
  rw [Nat.zero_add] at own1
  rcases own1.2 with ⟨hv, hn00⟩ | ⟨g, cp, cur, hv, _⟩
  · omega
  · simp only [Value.slice.injEq, true_and] at hv
    obtain ⟨rfl, rfl⟩ := hv
    exact ⟨g, c1, rfl, by simpa using own1, hb0.grown gr1 (by simp) (fun k hk => by simp [Value.ownBlock] at hk; omega)⟩

/-- Leaves whose first k lists are copies of one's own; the others are as they were. -/
def PartLv (w : World) (B : Nat) (v : Value) (n k : Nat) (vs0 : List Value) (ls : List (List Ch.Row)) : Prop :=
  ls.length = n ∧ ∃ vs : List Value, w.ownsRow B 65 1 v n vs ∧
    (∀ i, i < k → ∃ x, vs[i]? = some x ∧ w.ownsRow B 49 3 x (ls.getD i []).length (rcells (ls.getD i []))) ∧
    (∀ (i j : Nat) (x y : Value) (g : Nat), i < j → j < k → vs[i]? = some x → vs[j]? = some y → x.ownBlock = some g → y.ownBlock ≠ some g) ∧
    (∀ (i : Nat) (x : Value) (g : Nat), i < k → vs[i]? = some x → v.ownBlock = some g → x.ownBlock ≠ some g) ∧
    (∀ i, k ≤ i → vs[i]? = vs0[i]?)
theorem PartLv.whole {w : World} {B n : Nat} {v : Value} {vs0 : List Value} {ls : List (List Ch.Row)} (h : PartLv w B v n n vs0 ls) : OwnLv w B v n ls := by
  obtain ⟨hl, vs, ho, hi, hd, hd', _⟩ := h
  have hvl : vs.length = n := by have := ho.1; omega
  have hin : ∀ (i : Nat) (x : Value), vs[i]? = some x → i < n := by
    intro i x hx
    rcases Nat.lt_or_ge i n with h | h
    · exact h
    · rw [List.getElem?_eq_none (by omega)] at hx; cases hx
  exact ⟨hl, vs, ho, hi, fun i j x y g hij hx hy => hd i j x y g hij (hin j y hy) hx hy, fun i x g hx => hd' i x g (hin i x hx) hx⟩
theorem PartLv.below {w w' : World} {B n k : Nat} {v : Value} {vs0 : List Value} {ls : List (List Ch.Row)} (h : PartLv w B v n k vs0 ls) (hb : Below w.heap.size w w') : PartLv w' B v n k vs0 ls := by
  obtain ⟨hl, vs, ho, hi, hd, hd', hr⟩ := h
  refine ⟨hl, vs, owns_below ho hb, fun i hlt => ?_, hd, hd', hr⟩
  obtain ⟨x, h1, h2⟩ := hi i hlt
  exact ⟨x, h1, owns_below h2 hb⟩
/-- The next list is copied. -/
theorem PartLv.put {w0 w : World} {B o n cap k : Nat} {vs0 : List Value} {ls : List (List Ch.Row)} {x : Value} (h : PartLv w0 B (.slice (some ⟨o, 0, none⟩) n cap) n k vs0 ls) (hb : Below w0.heap.size w0 w)
    (hx : w.ownsRow w0.heap.size 49 3 x (ls.getD k []).length (rcells (ls.getD k []))) (hk : k < n) (hB : B ≤ w0.heap.size) : PartLv (w.setCell ⟨o, k, none⟩ x) B (.slice (some ⟨o, 0, none⟩) n cap) n (k + 1) vs0 ls := by
  obtain ⟨hl, vs, ho, hi, hd, hd', hr⟩ := h
  have ho1 := owns_below ho hb
  have hvl : vs.length = n := by have := ho.1; omega
  have hst := ho1.stored k x
  have hob := owns_bounds ho
  have fresh : ∀ g, x.ownBlock = some g → w0.heap.size ≤ g := fun g hg => (owns_lt hx g hg).1
  have old : ∀ (i : Nat) (y : Value) (g : Nat), i < k → vs[i]? = some y → y.ownBlock = some g → g < w0.heap.size := by
    intro i y g hin hy hg
    obtain ⟨y', h1, h2⟩ := hi i hin
    rw [hy] at h1; cases h1
    exact (owns_lt h2 g hg).2
  refine ⟨hl, vs.set k x, hst.1, fun i hlt => ?_, ?_, ?_, ?_⟩
  · by_cases hik : k = i
    · subst hik
      refine ⟨x, by simp [hvl, hk], ?_⟩
      refine owns_base (owns_grown hx hst.2 fun g hg he => ?_) hB
      have := fresh g hg
      simp at he
      omega
    · obtain ⟨y, h1, h2⟩ := hi i (by omega)
      refine ⟨y, by rw [List.getElem?_set_ne hik]; exact h1, ?_⟩
      refine owns_grown (owns_below h2 hb) hst.2 fun g hg he => ?_
      simp at he
      subst he
      exact hd' i y _ (by omega) h1 rfl hg
  · intro i j y z g hij hjk hy hz hyg hzg
    rw [List.getElem?_set_ne (by omega)] at hy
    by_cases hjk' : k = j
    · subst hjk'
      rw [List.getElem?_set_self (by omega)] at hz
      cases hz
      have := fresh g hzg
      have := old i y g (by omega) hy hyg
      omega
    · rw [List.getElem?_set_ne hjk'] at hz
      exact hd i j y z g hij (by omega) hy hz hyg hzg
  · intro i y g hik hy hg hyg
    by_cases hik' : k = i
    · subst hik'
      rw [List.getElem?_set_self (by omega)] at hy
      cases hy
      have := fresh g hyg
      simp [Value.ownBlock] at hg
      omega
    · rw [List.getElem?_set_ne hik'] at hy
      exact hd' i y g (by omega) hy hg hyg
  · intro i hik
    rw [List.getElem?_set_ne (by omega)]
    exact hr i (by omega)

set_option maxHeartbeats 800000 in
theorem cloneLeaves_any (a : Option Addr) (n cap : Nat) (ls : List (List Ch.Row)) (w : World) (h : LvAt w a n ls) (hs : Ch.lvSize ls ≤ 1048576) (hg : ∀ k, k < n → (ls.getD k []).length ≠ 0) (hn0 : 0 < n) :
    Calls Try.prog 34 #[.slice a n cap] w fun e w' => ∃ g c', e = .returned (.slice (some ⟨g, 0, none⟩) n c') ∧ OwnLv w' w.heap.size (.slice (some ⟨g, 0, none⟩) n c') n ls ∧ Below w.heap.size w w' := by
  have HL := h.len
  have hn : n ≤ 1048576 := by unfold Ch.lvSize at hs; have := HL.out; omega
  obtain ⟨hl, vs, hc, hi⟩ := h
  obtain ⟨b, off, rfl, hcc⟩ := hc.2 hn0
  have hone : ∀ u ∈ vs, u.oneCell' = true := by
    intro u hu
    obtain ⟨j, hj, rfl⟩ := List.getElem_of_mem hu
    have hvl := hc.1
    obtain ⟨ai, ni, ci, h1, _⟩ := hi j (by omega)
    rw [List.getElem?_eq_getElem hj] at h1
    simp only [Option.some.injEq] at h1
    rw [h1]; rfl
  have H : LvAt w (some ⟨b, off, none⟩) n ls := ⟨hl, vs, hc, hi⟩
  go_enter Try.func34, Try.ntmps34
  go_wp2_with fail
  refine (cloneLeafS_any ⟨b, off, none⟩ n cap vs _ hc hone hn hn0).mono ?_
  rintro e w1 ⟨g, c', rfl, o1, b1⟩
  have Lg := owns_bounds o1
  have P0 : PartLv w1 w.heap.size (.slice (some ⟨g, 0, none⟩) n c') n 0 vs ls := ⟨hl, vs, o1, fun i hi => absurd hi (by omega), fun i j x y g hij hj => absurd hj (by omega), fun i x g hi => absurd hi (by omega), fun i _ => rfl⟩
  clear o1
  go_wp2
  go_loopw [10] (fun i wr => ∃ k : Nat, k ≤ n ∧ i = .int .i64 k ∧ PartLv wr w.heap.size (.slice (some ⟨g, 0, none⟩) n c') n k vs ls ∧ Below w.heap.size w wr) (fun i _ => n - (intOf i).toNat)
  case atStart => exact ⟨0, Nat.zero_le _, rfl, P0, b1⟩
  case round =>
    clear P0 b1
    obtain ⟨k, hk, rfl, part, hB⟩ := hrel
    by_cases hlt : k < n
    · have HS := hid (Ch.lv_leaf hs k)
      have HP := part
      obtain ⟨_, us, ho, _, _, _, hr⟩ := part
      have hcu := owns_cells ho
      rw [Nat.mul_one] at hcu
      obtain ⟨b', off', hb', hcu⟩ := hcu.2 (by omega)
      simp only [Option.some.injEq, Addr.mk.injEq, and_true] at hb'
      obtain ⟨rfl, rfl⟩ := hb'
      obtain ⟨ai, ni, ci, h1, h2, h3⟩ := hi k hlt
      have hcell := (hcu k hlt).trans ((hr k (Nat.le_refl _)).trans h1)
      rw [Nat.zero_add] at hcell
      have hbl := lt_of_cell hcell
      have HRl := h2.rlen
      have hni : ni ≤ 1048576 := by have := HS.out; have := HRl.out; omega
      have hgk := hg k hlt
      obtain ⟨b1, o1, rfl, _⟩ := h2.row (k := 0) (by have := HRl.out; omega)
      clear ho hcu hr h1
      have bA : ∀ o, Below wr.heap.size wr (wr.alloc o) := fun o => (Below.refl _ _).alloc (Nat.le_refl _) _
      go_wp2_with fail
      refine (cloneRows_any ⟨b1, o1, none⟩ ni ci (ls.getD k []) _ (h2.below (hB.alloc hB.size _)) hni).mono ?_
      rintro e w2 ⟨a2, c2, rfl, o2, b2⟩
      have b2w := below_box b2
      have HO : PartLv w2 w.heap.size (.slice (some ⟨g, 0, none⟩) n c') n k vs ls := HP.below b2w
      obtain ⟨_, us', ho', _⟩ := HO
      have hf0 := ho'.frozenAt k
      obtain ⟨u0, hd0⟩ := owns_some ho' (j := k) (by omega)
      clear ho'
      go_wp2
      go_roundw
      case rel =>
        refine ⟨k + 1, by omega, by go_num, ?_, ?_⟩
        · refine PartLv.put (HP.below (bA _)) b2 ?_ hlt (by simp; exact Nat.le_trans hB.size (by omega))
          have := HRl.out
          subst this
          exact o2
        · exact (hB.trans (b2w.mono hB.size)).setCell (p := ⟨g, k, none⟩) (by simp; omega) _
      case measure => simp [intOf]; omega
    · obtain rfl : k = n := by omega
      go_wp2
      go_ret
      exact ⟨g, c', rfl, part.whole, hB⟩

end Go.Proofs.Ytjjbjdjkcckgmaa
