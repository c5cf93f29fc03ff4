
/- DropRow of the model. -/
import Derived.Test.YthfanfnbjldddaaGreatDropM
import Derived.Test.YthfanfnbjldddaaGreatFindW
import Derived.Test.YthfanfnbjldddaaGreatCopyW
namespace Go.Proofs.YthfanfnbjldddaaGreat
open Go.RowKit Go.Maps

/-- A leaf is appended: its rows are newer than all else. -/
theorem OwnLv.snoc {w0 w1 w2 : World} {B n m : Nat} {v v' x : Value} {vs : List Value} {ls : List (List Ch.Row)} {l : List Ch.Row} {o : Obj} (h : OwnV w0 B v n vs ls) (hb : Below w0.heap.size w0 w1)
    (hx : w1.ownsRow w0.heap.size 53 3 x l.length (rcells l)) (hB : B ≤ w0.heap.size) (hm : m = n + 1)
    (h2 : w2.ownsRow B 80 1 v' m (vs ++ [x])) (hg : (w1.alloc o).grownBy w2 v.ownBlock) (hat : ∀ g, v'.ownBlock = some g → v.ownBlock = some g ∨ (w1.alloc o).heap.size ≤ g) : OwnLv w2 B v' m (ls ++ [l]) := by
  subst hm
  have hlt := h.lt
  obtain ⟨hl, ho, hi, hd, hd'⟩ := h
  have hvl : vs.length = n := by have := ho.1; omega
  have ba : Below w1.heap.size w1 (w1.alloc o) := (Below.refl _ _).alloc (Nat.le_refl _) _
  have hsz := hb.size
  have Lx := owns_lt hx
  have Lv := owns_lt ho
  have hin : ∀ (i : Nat) (y : Value), vs[i]? = some y → i < n := by
    intro i y hy
    rcases Nat.lt_or_ge i n with h | h
    · exact h
    · rw [List.getElem?_eq_none (by omega)] at hy; cases hy
  have split : ∀ (i : Nat) (y : Value), (vs ++ [x])[i]? = some y → (i < n ∧ vs[i]? = some y) ∨ (i = n ∧ y = x) := by
    intro i y hy
    rcases Nat.lt_or_ge i n with h | h
    · rw [List.getElem?_append_left (by omega)] at hy; exact .inl ⟨h, hy⟩
    · rw [List.getElem?_append_right (by omega)] at hy
      by_cases h0 : i - vs.length = 0
      · rw [h0] at hy; simp at hy; exact .inr ⟨by omega, hy.symm⟩
      · rw [List.getElem?_eq_none (by simp; omega)] at hy; cases hy
  refine ⟨by simp [hl], vs ++ [x], h2, fun i hlt' => ?_, ?_, ?_⟩
  · by_cases hin' : i = n
    · subst hin'
      refine ⟨x, by rw [List.getElem?_append_right (by omega)]; simp [hvl], ?_⟩
      have e : (ls ++ [l]).getD i [] = l := by simp [List.getD, hl]
      rw [e]
      refine owns_base (owns_grown (owns_below hx ba) hg fun g hg' he => ?_) hB
      have := Lx g hg'
      have := Lv g he
      omega
    · obtain ⟨y, h1, h3⟩ := hi i (by omega)
      refine ⟨y, by rw [List.getElem?_append_left (by omega)]; exact h1, ?_⟩
      have e : (ls ++ [l]).getD i [] = ls.getD i [] := by simp [List.getD, List.getElem?_append_left (show i < ls.length by omega)]
      rw [e]
      refine owns_grown (owns_below (owns_below h3 hb) ba) hg fun g hg' he => ?_
      exact hd' i y g h1 he hg'
  · intro i j y z g hij hy hz hyg hzg
    rcases split i y hy with ⟨hi1, hy'⟩ | ⟨hi1, rfl⟩
    · rcases split j z hz with ⟨hj1, hz'⟩ | ⟨hj1, rfl⟩
      · exact hd i j y z g hij hy' hz' hyg hzg
      · have := hlt i y g hy' hyg
        have := Lx g hzg
        omega
    · rcases split j z hz with ⟨hj1, hz'⟩ | ⟨hj1, rfl⟩ <;> omega
  · intro i y g hy hvg hyg
    have hv' := hat g hvg
    simp only [World.alloc, Array.size_push] at hv'
    rcases split i y hy with ⟨hi1, hy'⟩ | ⟨hi1, rfl⟩
    · rcases hv' with h3 | h3
      · exact hd' i y g hy' h3 hyg
      · have := hlt i y g hy' hyg
        omega
    · have := Lx g hyg
      rcases hv' with h3 | h3
      · have := Lv g h3
        omega
      · omega

theorem one_leaf {w : World} {x : Value} {t : TypeId} {H : Nat} (hH : H = w.heap.size) : CellsAt (w.alloc (.cells #[x] t)) (some ⟨H, 0, none⟩) 1 [x] := by
  subst hH
  refine ⟨rfl, fun _ => ⟨_, _, rfl, fun i hi => ?_⟩⟩
  rw [Nat.zero_add]
  have := cell_of_row (w.alloc (.cells #[x] t)) _ i _ _ _ (heap_alloc_new w _)
  rw [this]
  simp

theorem Ch.filter_yes {key : Int} {l : List Ch.Row} {k : Nat} (h : k < l.length) (hin : ¬ (l.getD k Row.zero).k = key) : (l.take (k + 1)).filter (notK key) = (l.take k).filter (notK key) ++ [l.getD k Row.zero] := by
  rw [take_snoc l Row.zero k h]; generalize l.getD k Row.zero = r at *; rw [List.filter_append]; simp [notK, hin]
theorem Ch.filter_no {key : Int} {l : List Ch.Row} {k : Nat} (h : k < l.length) (hin : (l.getD k Row.zero).k = key) : (l.take (k + 1)).filter (notK key) = (l.take k).filter (notK key) := by
  rw [take_snoc l Row.zero k h]; generalize l.getD k Row.zero = r at *; rw [List.filter_append]; simp [notK, hin]

set_option maxHeartbeats 4000000 in
theorem specDrop_any (a : Option Addr) (n cap : Nat) (key : Int) (ls : List (List Ch.Row)) (w : World) (h : LvAt w a n ls) (hs : Ch.lvSize ls ≤ 1048576) :
    Calls Tryz.prog 87 #[.slice a n cap, .int .i64 key] w fun e w' => ∃ a' m c', e = .returned (.slice a' m c') ∧ OwnLv w' w.heap.size (.slice a' m c') m (Ch.drop ls key) ∧ Below w.heap.size w w' := by
  have HL := h.len
  have hn : n ≤ 1048576 := by unfold Ch.lvSize at hs; have := HL.out; omega
  have o0 := empty_leaves w w.heap.size (Nat.le_refl _)
  have O0 : OwnLv (w.alloc (.cells #[] 80)) w.heap.size (.slice (some ⟨w.heap.size, 0, none⟩) 0 0) 0 [] := ⟨rfl, [], o0, fun i hi => absurd hi (by omega), fun i j x y g _ hx => by simp at hx, fun i x g hx => by simp at hx⟩
  clear o0
  go_enter Tryz.func87, Tryz.ntmps87
  go_wp2
  go_loopw [5, 6] (fun q i wr => ∃ (k m : Nat) (a' : Option Addr) (c' : Nat), k ≤ n ∧ m ≤ k ∧ i = .int .i64 k ∧ q = .slice a' m c' ∧ OwnLv wr w.heap.size (.slice a' m c') m (Ch.drop (ls.take k) key) ∧ Below w.heap.size w wr) (fun _ i _ => n - (intOf i).toNat)
  case atStart => exact ⟨0, 0, _, _, Nat.zero_le _, Nat.le_refl _, rfl, rfl, by simpa [Ch.drop] using O0, (Below.refl _ _).alloc (Nat.le_refl _) _⟩
  case round =>
    clear O0
    obtain ⟨k, m, a', c', hk, hmk, rfl, rfl, own, hB⟩ := hrel
    by_cases hlt : k < n
    · have hkl : k < ls.length := by have := HL.out; omega
      have HS := hid (Ch.lv_leaf hs k)
      have HD := hid (Ch.drop_take ls key k hkl)
      obtain ⟨b, off, ai, ni, ci, rfl, hc, hr, hni⟩ := h.leaf hlt
      have HRl := hr.rlen
      have hni' : ni ≤ 1048576 := by have := HS.out; have := HRl.out; omega
      generalize ls.getD k [] = l at *
      generalize Ch.drop (ls.take k) key = DL at *
      obtain ⟨wo, hwo⟩ : ∃ x : World, x = wr := ⟨_, rfl⟩
      subst hwo
      have hcr := keep_cell hB hc
      have e0 := empty_rows wo wo.heap.size (Nat.le_refl _)
      have bR : Below wo.heap.size wo (wo.alloc (.cells #[] 53)) := (Below.refl _ _).alloc (Nat.le_refl _) _
      go_wp2
      go_loopw [7, 8] (fun q i wq => ∃ (t p : Nat) (a2 : Option Addr) (c2 : Nat), t ≤ ni ∧ p ≤ t ∧ i = .int .i64 t ∧ q = .slice a2 p c2 ∧ wq.ownsRow wo.heap.size 53 3 (.slice a2 p c2) p (rcells ((l.take t).filter (Ch.notK key))) ∧ Below wo.heap.size wo wq) (fun _ i _ => ni - (intOf i).toNat)
      case atStart => exact ⟨0, 0, _, _, Nat.zero_le _, Nat.le_refl _, rfl, rfl, by simpa using e0, bR⟩
      case round =>
        clear e0 bR
        obtain ⟨t, p, a2, c2, ht, hpt, rfl, rfl, own2, hB2⟩ := hrel
        have hcq := keep_cell hB2 hcr
        by_cases hlt2 : t < ni
        · obtain ⟨b1, o1, rfl, q0, q1, q2⟩ := (hr.below (hB.trans (hB2.mono hB.size))).row hlt2
          have HY := hid (fun hin => Ch.filter_yes (key := key) (l := l) (k := t) (by have := HRl.out; omega) hin)
          have HNo := hid (fun hin => Ch.filter_no (key := key) (l := l) (k := t) (by have := HRl.out; omega) hin)
          generalize l.getD t Ch.Row.zero = rr at *
          obtain ⟨rk, rv, rg⟩ := rr
          simp only at q0 q1 q2 HY HNo
          generalize (l.take t).filter (Ch.notK key) = S at *
          have hsum : p + 1 ≤ 2097152 := by omega
          have bA : ∀ o, Below wr.heap.size wr (wr.alloc o) := fun o => (Below.refl _ _).alloc (Nat.le_refl _) _
          by_cases hke : rk = key
          · have HNo' := hid (HNo.out hke)
            have hne : (rk != key) = false := by simpa using hke
            clear HY HNo hke
            go_wp2
            go_roundw
            case rel => exact ⟨t + 1, p, a2, c2, by omega, by omega, by go_num, rfl, by rw [HNo'.out]; exact own2, hB2⟩
            case measure => simp [intOf]; omega
          · have HY' := hid (HY.out hke)
            have hne : (rk != key) = true := by simpa using hke
            clear HY HNo hke
            go_wp2_with (at_builtin; go_must (refine wpList_appRs (.tmp 38) (.tmp 47) wo.heap.size (.slice a2 p c2) p S 1 [⟨rk, rv, rg⟩] hsum ?_ ?_ ?_ ?_ ?_ ?_ ?_; exact rfl; exact rfl; exact rfl; exact ⟨_, _, rfl, new_row (r := ⟨rk, rv, rg⟩) rfl⟩; exact owns_below own2 (bA _); (focus (have := hB2.size; simp; omega)); intro a3 c3 w3 own3 b3))
            go_roundw
            case rel => exact ⟨t + 1, p + 1, a3, c3, by omega, by omega, by go_num, rfl, by rw [HY'.out]; exact own3, (hB2.alloc hB2.size _).trans b3⟩
            case measure => simp [intOf]; omega
        · obtain rfl : t = ni := by omega
          have hbq := hB.trans (hB2.mono hB.size)
          rw [List.take_of_length_le (by have := HRl.out; omega)] at own2
          have hpl : p = (l.filter (Ch.notK key)).length := by have := own2.1; rw [rcells_len] at this; omega
          have HPL := hid hpl
          clear hpl
          by_cases hp0 : p = 0
          · subst hp0
            have HD' : Hid (Ch.drop (ls.take (k + 1)) key = DL) := by
              show _ = _
              rw [HD.out]
              have : Ch.full (l.filter (Ch.notK key)) = false := by unfold Ch.full; rw [← HPL.out]; rfl
              rw [this]; simp
            clear HD
            go_wp2
            go_roundw
            case rel => exact ⟨k + 1, m, a', c', by omega, by omega, by go_num, rfl, by rw [HD'.out]; exact own.below hB2, hbq⟩
            case measure => simp [intOf]; omega
          · have HD' : Hid (Ch.drop (ls.take (k + 1)) key = DL ++ [l.filter (Ch.notK key)]) := by
              show _ = _
              rw [HD.out]
              have : Ch.full (l.filter (Ch.notK key)) = true := by unfold Ch.full; rw [← HPL.out]; simp; omega
              rw [this]; simp
            clear HD
            have hp1 : (0 : Int) < (p : Int) := by omega
            obtain ⟨vs, hV⟩ := own.told
            have hoV := hV.2.1
            have hsum : m + 1 ≤ 2097152 := by omega
            have bA : ∀ o, Below wr.heap.size wr (wr.alloc o) := fun o => (Below.refl _ _).alloc (Nat.le_refl _) _
            go_wp2_with (at_builtin; go_must (refine wpList_appLv (.tmp 52) (.tmp 55) w.heap.size (.slice a' m c') m vs 1 [.slice a2 p c2] hsum (by simp [Value.oneCell']) ?_ ?_ ?_ ?_ ?_ ?_ ?_ (by omega); exact rfl; exact rfl; exact rfl; exact ⟨_, _, rfl, one_leaf rfl⟩; exact owns_below (owns_below hoV hB2) (bA _); (focus (have := hbq.size; simp; omega)); intro a3 c3 w3 own3 gr3 at3))
            go_roundw
            case rel =>
              refine ⟨k + 1, m + 1, a3, c3, by omega, by omega, by go_num, rfl, ?_, ?_⟩
              · rw [HD'.out]
                refine OwnLv.snoc hV hB2 ?_ hB.size rfl own3 gr3 at3
                have := HPL.out
                rw [← this]
                exact own2
              · refine (hbq.alloc hbq.size _).grown gr3 (by have := hbq.size; simp; omega) ?_
                intro j hj
                exact (owns_lt hoV j hj).1
            case measure => simp [intOf]; omega
    · obtain rfl : k = n := by omega
      go_wp2
      go_ret
      have e1 := HL.out
      rw [List.take_of_length_le (by omega)] at own
      exact ⟨a', m, c', rfl, own, hB⟩

end Go.Proofs.YthfanfnbjldddaaGreat
