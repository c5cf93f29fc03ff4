
/- PackLeaves of the model and of the program. -/
import Derived.Test.YtofhkncdjjlllaaFillI
import Derived.Test.YtofhkncdjjlllaaDropI
import Derived.Test.YtofhkncdjjlllaaPutZ
import Derived.Laws.Small
namespace Go.Proofs.Ytofhkncdjjlllaa
open Go.RowKit

/-- Rows appended to rows of one's own. -/
theorem wpList_appRsL {ops : Array Oper} {rest : List Oper} {o : Oper} {a : Act} {w : World} {Q : Exit → Act → World → Prop} (s x : Operand)
    (B : Nat) (v : Value) (n : Nat) (rs : List Ch.Row) (m : Nat) (zs : List Ch.Row) (hm : n + m ≤ 2097152)
    (ho : o.op = .call { callee := .builtin .append, args := #[s, x], argTypes := #[111, 111] }) (hgd : o.guard = none)
    (hs : a.eval s = v) (hx : ∃ ad c, a.eval x = .slice (some ad) m c ∧ CellsAt w (some ad) (m * 3) (rcells zs))
    (hown : w.ownsRow B 42 3 v n (rcells rs)) (hbase : B ≤ w.heap.size)
    (hK : ∀ a' c' w', w'.ownsRow B 42 3 (.slice a' (n + m) c') (n + m) (rcells (rs ++ zs)) → Below B w w' → wpList Try.prog ops Q rest (a.put o.dst (.slice a' (n + m) c')) w') :
    wpList Try.prog ops Q (o :: rest) a w := by
  obtain ⟨ad, c, hx, hc⟩ := hx
  obtain ⟨i0, hi, hz0, hz1, hz2⟩ := info_parts Try.info42
  refine wpList_append_own w hgd s x 111 ho B 42 i0 _ 3 24 Try.underlying111 hi hz0 hz1 hz2 rfl (by omega) v n (rcells rs) hs hown ad m c (rcells zs) hx hc.1 ?_ (rcells_one zs) (by unfold maxLen; omega) (by omega) hbase ?_
  · intro j u hj
    have hjl : j < (rcells zs).length := (List.getElem?_eq_some_iff.1 hj).1
    have hl := hc.1
    obtain ⟨b, off, ha, hcc⟩ := hc.2 (by omega)
    simp only [Option.some.injEq] at ha
    subst ha
    have e : (⟨b, off, none⟩ : Addr).add j = ⟨b, off + j, none⟩ := by
      unfold Addr.add
      split
      · next h0 => subst h0; rfl
      · rfl
    rw [e, hcc j (by omega), hj]
  · intro v' w' hown' hgrow _
    rw [← rcells_append] at hown'
    obtain ⟨a', c', rfl⟩ := owns_shape hown'
    refine hK a' c' w' hown' ((Below.refl _ _).grown hgrow hbase (fun k hk => ?_))
    rcases hown.2 with ⟨hv, _⟩ | ⟨g, cap', cur, hv, hb, _⟩
    · subst hv; simp [Value.ownBlock] at hk
    · subst hv; simp [Value.ownBlock] at hk; omega

set_option maxHeartbeats 400000 in
theorem cloneRowsL_any (ad : Addr) (n cap : Nat) (rs : List Ch.Row) (w : World) (h : CellsAt w (some ad) (n * 3) (rcells rs)) (hn : n ≤ 1048576) :
    Calls Try.prog 122 #[.slice (some ad) n cap] w fun e w' => ∃ a' c', e = .returned (.slice a' n c') ∧ w'.ownsRow w.heap.size 42 3 (.slice a' n c') n (rcells rs) ∧ Below w.heap.size w w' := by
  have hnil := fun W => Lib.run_eql_slice_nil (P := Try.prog) W 111 42 (some ad) n cap 0 0 Try.underlying111
  simp only [Option.isNone_some] at hnil
  have hb0 : Below w.heap.size w (w.alloc (.cells #[] 42)) := (Below.refl _ _).alloc (Nat.le_refl _) _
  have hc := h.below hb0
  have ho := empty_rows w w.heap.size (Nat.le_refl _)
  have hm : 0 + n ≤ 2097152 := by omega
  go_enter Try.func122, Try.ntmps122
  go_wp2_with (at_builtin; go_must (refine wpList_appRsL (.tmp 5) (.tmp 6) w.heap.size (.slice (some ⟨w.heap.size, 0, none⟩) 0 0) 0 [] n rs hm ?_ ?_ ?_ ?_ ?_ ?_ ?_; exact rfl; exact rfl; exact rfl; exact ⟨_, _, rfl, hc⟩; exact ho; (focus (simp; done)); intro a1 c1 w1 own1 b1))
  go_ret
  rw [Nat.zero_add] at own1
  exact ⟨a1, c1, rfl, by simpa using own1, hb0.trans b1⟩

/-- Leaves appended to leaves: their lists as they are. -/
theorem wpList_appLvL {ops : Array Oper} {rest : List Oper} {o : Oper} {a : Act} {w : World} {Q : Exit → Act → World → Prop} (s x : Operand)
    (B : Nat) (v : Value) (n : Nat) (xs : List Value) (m : Nat) (ys : List Value) (hm : n + m ≤ 2097152) (h1 : ∀ u ∈ ys, u.oneCell' = true)
    (ho : o.op = .call { callee := .builtin .append, args := #[s, x], argTypes := #[113, 113] }) (hgd : o.guard = none)
    (hs : a.eval s = v) (hx : ∃ ad c, a.eval x = .slice (some ad) m c ∧ CellsAt w (some ad) m ys)
    (hown : w.ownsRow B 59 1 v n xs) (hbase : B ≤ w.heap.size)
    (hK : ∀ a' c' w', w'.ownsRow B 59 1 (.slice a' (n + m) c') (n + m) (xs ++ ys) → w.grownBy w' v.ownBlock → (∀ g, (Value.slice a' (n + m) c').ownBlock = some g → v.ownBlock = some g ∨ w.heap.size ≤ g) → wpList Try.prog ops Q rest (a.put o.dst (.slice a' (n + m) c')) w') (hm0 : 0 < m) :
    wpList Try.prog ops Q (o :: rest) a w := by
  obtain ⟨ad, c, hx, hc⟩ := hx
  obtain ⟨i0, hi, hz0, hz1, hz2⟩ := info_parts Try.info59
  refine wpList_append_lies w hgd s x 113 ho B 59 i0 _ 1 24 Try.underlying113 hi hz0 hz1 hz2 rfl (by omega) v n xs hs hown ad m c ys hx (by rw [Nat.mul_one]; exact hc.1) ?_ h1 hm0 (by unfold maxLen; omega) (by omega) hbase _ rfl ?_
  · intro j u hj
    have hjl : j < ys.length := (List.getElem?_eq_some_iff.1 hj).1
    have hl := hc.1
    obtain ⟨b, off, ha, hcc⟩ := hc.2 (by omega)
    simp only [Option.some.injEq] at ha
    subst ha
    have e : (⟨b, off, none⟩ : Addr).add j = ⟨b, off + j, none⟩ := by
      unfold Addr.add
      split
      · next h0 => subst h0; rfl
      · rfl
    rw [e, hcc j (by omega), hj]
  · intro g cp' w' hown' hgrow hat hlt
    refine hK _ _ w' hown' hgrow fun g' hg' => ?_
    simp [Value.ownBlock] at hg'
    subst hg'
    rcases hat with hat | hat
    · exact .inl hat
    · exact .inr (by omega)

theorem pieces_any (a : Option Addr) (n cap : Nat) (w : World) (hn : n ≤ 1048576) :
    Calls Try.prog 78 #[.slice a n cap, .int .i64 4] w fun e w' => e = .returned (.int .i64 ((n + 3) / 4 : Nat)) ∧ w' = w := by
  obtain ⟨q, hq⟩ : ∃ q, q = (n + 3) / 4 := ⟨_, rfl⟩
  rw [← hq]
  have e1 : ((n : Int) + 4 - 1).tdiv 4 = (q : Int) := by rw [Int.tdiv_eq_ediv_of_nonneg (by omega)]; omega
  go_enter Try.func78, Try.ntmps78
  go_wp2
  go_ret
  exact ⟨ret_int (by omega), rfl⟩

set_option maxHeartbeats 400000 in
theorem piece_any (g m cap f t : Nat) (F : List Ch.Row) (w : World) (h : CellsAt w (some ⟨g, 0, none⟩) (m * 3) (rcells F)) (hm : m ≤ 1048576) (hf : f < t) (ht : t ≤ m) (hc : m ≤ cap) (hc' : cap ≤ 9223372036854775807) :
    Calls Try.prog 79 #[.slice (some ⟨g, 0, none⟩) m cap, .int .i64 f, .int .i64 t] w fun e w' => ∃ a' c', e = .returned (.slice a' (t - f) c') ∧ w'.ownsRow w.heap.size 42 3 (.slice a' (t - f) c') (t - f) (rcells ((F.drop f).take (t - f))) ∧ Below w.heap.size w w' := by
  have h1 : t ≤ cap := by omega
  have h2 : f ≤ t := by omega
  have h3 : ¬ cap = f := by omega
  have hcR := h.cutR (k := f) (by omega)
  rw [Nat.zero_add] at hcR
  have hcc := hcR.cutL (k := t - f) (by omega)
  go_enter Try.func79, Try.ntmps79
  go_wp2_with fail
  refine (cloneRowsL_any ⟨g, f * 3, none⟩ (t - f) (cap - f) _ _ hcc (by omega)).mono ?_
  rintro e w1 ⟨a1, c1, rfl, own1, b1⟩
  go_wp2
  go_ret
  exact ⟨a1, c1, rfl, own1, b1⟩

theorem Ch.piece_is (F : List Ch.Row) (k t : Nat) (h : t = min (k * 4 + 4) F.length) : (F.drop (k * 4)).take (t - k * 4) = Ch.pieceOf F k := by
  unfold Ch.pieceOf
  by_cases h4 : k * 4 + 4 ≤ F.length
  · rw [show t - k * 4 = 4 by omega]
  · rw [List.take_of_length_le (by simp; omega), List.take_of_length_le (by simp; omega)]
theorem Ch.pieces_snoc (F : List Ch.Row) (k : Nat) : (List.range (k + 1)).map (Ch.pieceOf F) = (List.range k).map (Ch.pieceOf F) ++ [Ch.pieceOf F k] := by
  rw [List.range_succ]; simp
theorem Ch.pack_is (F : List Ch.Row) (p : Nat) (h : p = (F.length + 3) / 4) : (List.range p).map (Ch.pieceOf F) = Ch.pack F := by
  subst h; rfl
theorem Ch.packR_small {ls : List (List Ch.Row)} (hs : Ch.lvSize ls ≤ 1048576) : Ch.lvSize (Ch.packR ls).2 ≤ 1048576 := by
  cases hc : (Ch.leavesFault ls != 0)
  · have h0 : Ch.leavesFault ls = 0 := by simpa using hc
    rw [Ch.packR_ok h0]
    have ⟨_, h2⟩ := Ch.pack_good h0
    have h3 := Ch.flat_len (Ch.pack ls.flatten)
    rw [Ch.pack_flat, Ch.flat_len] at h3
    unfold Ch.lvSize at hs ⊢
    show (Ch.pack ls.flatten).length + ((Ch.pack ls.flatten).map List.length).sum ≤ _
    omega
  · rw [Ch.packR_no hc]
    show Ch.lvSize [] ≤ _
    simp [Ch.lvSize]

set_option linter.unusedSimpArgs false in
set_option maxHeartbeats 2000000 in
theorem implPackLv_any (a : Option Addr) (n cap : Nat) (ls : List (List Ch.Row)) (w : World) (h : LvAt w a n ls) (hs : Ch.lvSize ls ≤ 1048576) :
    Calls Try.prog 28 #[.slice a n cap] w fun e w' => ∃ a' m c', e = .returned (.agg #[.int .i64 (Ch.packR ls).1, .slice a' m c']) ∧ OwnLv w' w.heap.size (.slice a' m c') m (Ch.packR ls).2 ∧ Below w.heap.size w w' := by
  have HL := h.len
  have b0 : Below w.heap.size w (w.alloc (.cells #[.int .i64 0, .slice none 0 0] 46)) := (Below.refl _ _).alloc (Nat.le_refl _) _
  cases hc : (Ch.leavesFault ls != 0)
  · have h0 : Ch.leavesFault ls = 0 := by simpa using hc
    rw [Ch.packR_ok h0]
    have hfl := Ch.flat_small hs ls.length
    rw [List.take_length] at hfl
    have RI := fun W hW => implRowsOf_ok a n cap ls W hW hs h0 ls.flatten.length rfl
    generalize ls.flatten = F at *
    generalize hm : F.length = m at *
    obtain ⟨P, hP⟩ : ∃ P, P = (m + 3) / 4 := ⟨_, rfl⟩
    have PI := fun A C W => pieces_any A m C W hfl
    rw [← hP] at PI
    have HP := hid (Ch.pack_is F P (by rw [hm]; exact hP))
    have hPm : P ≤ 1048576 := by omega
    have hPd : ∀ k, k < P → k * 4 < m := by intro k hk; omega
    have FI := implLeaves_any a n cap ls
    rw [h0] at FI
    clear hP h0 hc
    go_enter Try.func28, Try.ntmps28
    go_wp2_with fail
    refine (FI _ (h.below b0) hs).mono ?_
    rintro e w1 ⟨rfl, b1⟩
    obtain ⟨x0, x1⟩ := box2 b1
    have f0 := box_froz b1 0
    have f1 := box_froz b1 1
    have hz := lt_of_cell x0
    have bE := b0.trans (b1.mono b0.size)
    go_wp2_with fail
    refine (RI _ (h.below bE)).mono ?_
    rintro e w2 ⟨a2, c2, rfl, own, b2⟩
    replace x0 := keep_cell b2 x0
    replace x1 := keep_cell b2 x1
    replace f0 := ((bcell b2).2 w.heap.size 0 hz).trans f0
    replace f1 := ((bcell b2).2 w.heap.size 1 hz).trans f1
    have hz2 : w.heap.size < w2.heap.size := lt_of_cell x0
    have bE2 := bE.trans (b2.mono bE.size)
    have hfd : ∀ W, (Instr.field 50 (.agg #[.int .i64 0, .slice a2 m c2]) 1).run Try.prog W = .ok (.slice a2 m c2) W := fun _ => by kernel_rfl
    clear b1 b2 bE b0 RI FI
    go_wp2_with fail
    refine (PI a2 c2 w2).mono ?_
    rintro e w3 ⟨rfl, rfl⟩
    clear PI hfd
    go_wp2
    go_loopw [5, 20] (fun q i wr => ∃ (k : Nat) (a' : Option Addr) (c' : Nat), k ≤ P ∧ i = .int .i64 k ∧ q = .slice a' k c' ∧ OwnLv wr w3.heap.size (.slice a' k c') k ((List.range k).map (Ch.pieceOf F)) ∧ Below w3.heap.size w3 wr) (fun _ i _ => P - (intOf i).toNat)
    case atStart => exact ⟨0, _, _, Nat.zero_le _, rfl, rfl, OwnLv.nil _ _, Below.refl _ _⟩
    case round =>
      obtain ⟨k, a', c', hk, rfl, rfl, oL, hB⟩ := hrel
      by_cases hlt : k < P
      · have hkm := hPd k hlt
        have hown := owns_below own hB
        rcases own.2 with ⟨_, h00⟩ | ⟨g, cp, cur, hv, _⟩
        · omega
        simp only [Value.slice.injEq, true_and] at hv
        obtain ⟨rfl, rfl⟩ := hv
        have hcap := owns_capN hown
        have hcells := owns_cells hown
        obtain ⟨t, ht⟩ : ∃ t : Nat, t = min (k * 4 + 4) m := ⟨_, rfl⟩
        have hmin : (if (m : Int) < (k : Int) * 4 + 4 then (m : Int) else (k : Int) * 4 + 4) = (t : Int) := by split <;> omega
        have hmin2 : min ((k : Int) * 4 + 4) (m : Int) = (t : Int) := by omega
        have HPi := hid (Ch.piece_is F k t (by rw [hm]; exact ht))
        have HSn := hid (Ch.pieces_snoc F k)
        have ht1 : k * 4 < t := by omega
        have ht2 : t ≤ m := by omega
        clear ht
        obtain ⟨vs, hV⟩ := oL.told
        have hoV := hV.2.1
        have hsum : k + 1 ≤ 2097152 := by omega
        have hk4 : ((k * 4 : Nat) : Int) = (k : Int) * 4 := by omega
        have PC := piece_any g m c2 (k * 4) t F wr hcells hfl ht1 ht2 hcap.1 hcap.2
        rw [HPi.out, hk4] at PC
        generalize Ch.pieceOf F k = pc at *
        go_wp2_with fail
        refine PC.mono ?_
        rintro e w4 ⟨a4, c4, rfl, own4, b4⟩
        have HLn := own_rows_len own4
        have bA : ∀ o, Below w4.heap.size w4 (w4.alloc o) := fun o => (Below.refl _ _).alloc (Nat.le_refl _) _
        have hB4 := hB.trans (b4.mono hB.size)
        clear PC
        generalize t - k * 4 = d at *
        go_wp2_with (at_builtin; go_must (refine wpList_appLvL (.tmp 30) (.tmp 36) w3.heap.size (.slice a' k c') k vs 1 [.slice a4 d c4] hsum (by simp [Value.oneCell']) ?_ ?_ ?_ ?_ ?_ ?_ ?_ (by omega); exact rfl; exact rfl; exact rfl; exact ⟨_, _, rfl, one_leaf rfl⟩; exact owns_below (owns_below hoV b4) (bA _); (focus (have := hB4.size; simp; omega)); intro a5 c5 w5 own5 gr5 at5))
        go_roundw
        case rel =>
          refine ⟨k + 1, a5, c5, by omega, by go_num, rfl, ?_, ?_⟩
          · rw [HSn.out]
            refine OwnLv.snoc hV b4 ?_ hB.size rfl own5 gr5 at5
            have := HLn.out
            rw [← this]
            exact own4
          · refine (hB4.alloc hB4.size _).grown gr5 (by have := hB4.size; simp; omega) ?_
            intro j hj
            exact (owns_lt hoV j hj).1
        case measure => simp [intOf]; omega
      · obtain rfl : k = P := by omega
        replace x0 := keep_cell hB x0
        replace x1 := keep_cell hB x1
        replace f0 := ((bcell hB).2 w.heap.size 0 hz2).trans f0
        replace f1 := ((bcell hB).2 w.heap.size 1 hz2).trans f1
        have hz3 := lt_of_cell x0
        go_wp2
        rw [HP.out] at oL
        refine bodyPost_ret (v := .agg #[.int .i64 0, .slice a' k c']) (by simp [results, Try.results28, go_sem, x0, x1]) rfl ⟨a', k, c', rfl, ?_, ?_⟩
        · exact ((oL.box hz2 _).box hz2 _).base (by omega)
        · have bb := bE2.trans (hB.mono bE2.size)
          exact (bb.setCell (p := ⟨w.heap.size, 0, none⟩) (Nat.le_refl _) _).setCell (p := ⟨w.heap.size, 1, none⟩) (Nat.le_refl _) _
  · rw [Ch.packR_no hc]
    go_enter Try.func28, Try.ntmps28
    go_wp2_with fail
    refine (implLeaves_any a n cap ls _ (h.below b0) hs).mono ?_
    rintro e w1 ⟨rfl, b1⟩
    obtain ⟨x0, x1⟩ := box2 b1
    have f0 := box_froz b1 0
    have f1 := box_froz b1 1
    have hz := lt_of_cell x0
    have bE := b0.trans (b1.mono b0.size)
    generalize hq : Ch.leavesFault ls = c at *
    go_wp2
    exact bodyPost_ret (v := .agg #[.int .i64 c, .slice none 0 0]) (by simp [results, Try.results28, go_sem, x0, x1]) rfl ⟨none, 0, 0, by rw [hq], OwnLv.nil _ _, (bE.setCell (p := ⟨w.heap.size, 0, none⟩) (Nat.le_refl _) _).setCell (p := ⟨w.heap.size, 1, none⟩) (Nat.le_refl _) _⟩
end Go.Proofs.Ytofhkncdjjlllaa
