
/- l3Put of the model. -/
import Derived.Test.YtjjbjdjkcckgmaaPutD
import Derived.Test.YtjjbjdjkcckgmaaForW
import Derived.Deep.Cut
namespace Go.Proofs.Ytjjbjdjkcckgmaa
open Go.RowKit

theorem step_appLv {ops : Array Oper} {o : Oper} {a : Act} {w : World} {K : Act → World → Prop} {Q : Exit → Act → World → Prop} {E : Prop} (s x : Operand)
    (B : Nat) (v : Value) (n : Nat) (xs : List Value) (m : Nat) (ys : List Value) (hm : n + m ≤ 2097152) (h1 : ∀ u ∈ ys, u.oneCell' = true)
    (ho : o.op = .call { callee := .builtin .append, args := #[s, x], argTypes := #[26, 26] }) (hgd : o.guard = none)
    (hs : a.eval s = v) (hx : ∃ ad c, a.eval x = .slice (some ad) m c ∧ CellsAt w (some ad) m ys)
    (hown : w.ownsRow B 65 1 v n xs) (hbase : B ≤ w.heap.size)
    (hK : ∀ a' c' w', w'.ownsRow B 65 1 (.slice a' (n + m) c') (n + m) (xs ++ ys) → w.grownBy w' v.ownBlock → (∀ g, (Value.slice a' (n + m) c').ownBlock = some g → v.ownBlock = some g ∨ w.heap.size ≤ g) → K (a.put o.dst (.slice a' (n + m) c')) w') (hm0 : 0 < m) :
    if Region.wanted o (yielded ops a.tmps) = true then Oper.wp Try.prog o a w K Q else E := by
  obtain ⟨ad, c, hx, hc⟩ := hx
  obtain ⟨i0, hi, hz0, hz1, hz2⟩ := info_parts Try.info65
  refine step_append_lies w hgd s x 26 ho B 65 i0 _ 1 24 Try.underlying26 hi hz0 hz1 hz2 rfl (by omega) v n xs hs hown ad m c ys hx (by rw [Nat.mul_one]; exact hc.1) ?_ h1 hm0 (by unfold maxLen; omega) (by omega) hbase _ rfl ?_
  · intro j u hj
    have hjl : j < ys.length := (List.getElem?_eq_some_iff.1 hj).1
    have hl := hc.1
    obtain ⟨b, off, ha, hcc⟩ := hc.2 (by omega)
    simp only [Option.some.injEq] at ha
    subst ha
    have e : (⟨b, off, none⟩ : Addr).add j = ⟨b, off + j, none⟩ := by
      unfold Addr.add
      split
      · next h0 => subst h0; rfl
      · rfl
    rw [e, hcc j (by omega), hj]
  · intro g cp' w' hown' hgrow hat hlt
    refine hK _ _ w' hown' hgrow fun g' hg' => ?_
    simp [Value.ownBlock] at hg'
    subst hg'
    rcases hat with hat | hat
    · exact .inl hat
    · exact .inr (by omega)

set_option linter.unusedSimpArgs false in
set_option maxHeartbeats 8000000 in
theorem specPut_any (a : Option Addr) (n cap : Nat) (ls : List (List Ch.Row)) (rk rv : Int) (rg : Bool) (w : World) (h : LvAt w a n ls) (hs : Ch.lvSize ls ≤ 1048576) (hf : Ch.leavesFault ls = 0) :
    Calls Try.prog 15 #[.slice a n cap, .agg #[.int .i64 rk, .int .i64 rv, .bool rg]] w fun e w' => ∃ a' m c', e = .returned (.slice a' m c') ∧ OwnLv w' w.heap.size (.slice a' m c') m (Ch.put ls ⟨rk, rv, rg⟩) ∧ Below w.heap.size w w' := by
  have HL := h.len
  have HF := hid hf
  have hn : n ≤ 60 := by have := Ch.good_len hf; have := HL.out; omega
  have hg := Ch.good_at HL hf
  have bA : ∀ (W : World) o, Below W.heap.size W (W.alloc o) := fun W o => (Below.refl _ _).alloc (Nat.le_refl _) _
  clear hf
  by_cases hn0 : n = 0
  · subst hn0
    have HP : Hid (Ch.put ls ⟨rk, rv, rg⟩ = [[⟨rk, rv, rg⟩]]) := Ch.put_nil HL.out.symm
    go_enter Try.func15, Try.ntmps15
    go_wp2
    go_ret
    refine ⟨_, 1, _, rfl, ?_, ?_⟩
    · rw [HP.out]
      have := one_put (w.alloc (.cells #[.int .i64 rk, .int .i64 rv, .bool rg] 49)) w.heap.size rk rv rg (by simp)
      simpa using this
    · exact Below.alloc (Below.alloc (Below.alloc (Below.refl _ _) (Nat.le_refl _) _) (by simp) _) (by simp; omega) _
  · obtain ⟨p, hp⟩ : ∃ p, p = Ch.forAt ls rk n := ⟨_, rfl⟩
    have hpn : p < n := by rw [hp]; exact Ch.forAt_lt (by omega)
    have HP : Hid (Ch.putAcc ls ⟨rk, rv, rg⟩ p n = Ch.put ls ⟨rk, rv, rg⟩) := by
      show _ = _
      have e := HL.out
      subst e
      exact Ch.putAcc_all (by omega) hp.symm
    have hw0 : Below w.heap.size w (w.alloc (.cells #[.int .i64 rk, .int .i64 rv, .bool rg] 49)) := bA _ _
    go_enter Try.func15, Try.ntmps15
    go_wp2_with fail
    refine (specFor_any a n cap rk ls _ (h.below hw0) hs hg).mono ?_
    rintro e w1 ⟨rfl, rfl⟩
    rw [← hp]
    clear hp
    go_wp2
    obtain ⟨B, HBe⟩ : ∃ B, Hid (B = w.heap.size + 1) := ⟨_, rfl⟩
    go_loopw [6, 7] (fun q i wr => ∃ (k m : Nat) (a' : Option Addr) (c' : Nat) (vs : List Value), k ≤ n ∧ m ≤ 2 * k ∧ i = .int .i64 k ∧ q = .slice a' m c' ∧ RefLv wr B (.slice a' m c') m vs (Ch.putAcc ls ⟨rk, rv, rg⟩ p k) ∧ Below B (w.alloc (.cells #[.int .i64 rk, .int .i64 rv, .bool rg] 49)) wr) (fun _ i _ => n - (intOf i).toNat)
    case atStart =>
      have e := HBe.out
      subst e
      refine ⟨0, 0, _, _, [], Nat.zero_le _, by omega, rfl, rfl, ⟨rfl, ?_, fun i hi => absurd hi (by omega)⟩, ?_⟩
      · have := empty_leaves (w.alloc (.cells #[.int .i64 rk, .int .i64 rv, .bool rg] 49)) (w.heap.size + 1) (by simp)
        simpa using this
      · exact (Below.refl _ _).alloc (by simp) _
    case round =>
      obtain ⟨k, m, a', c', vs, hk, hmk, rfl, rfl, own, hB⟩ := hrel
      have hBs : B ≤ wr.heap.size := by have := hB.size; have := HBe.out; simp at *; omega
      have hBo : Below (w.alloc (.cells #[.int .i64 rk, .int .i64 rv, .bool rg] 49)).heap.size (w.alloc (.cells #[.int .i64 rk, .int .i64 rv, .bool rg] 49)) wr := by
        have := HBe.out; subst this; simpa using hB
      have r0 := box_cell hBo 0
      have r1 := box_cell hBo 1
      have r2 := box_cell hBo 2
      simp at r0 r1 r2
      have hbw := below_box hBo
      clear hBo
      have hoV := own.2.1
      have hsum1 : m + 1 ≤ 2097152 := by omega
      have hsum2 : m + 2 ≤ 2097152 := by omega
      have hqb : ∀ g, (Value.slice a' m c').ownBlock = some g → B ≤ g := fun g hg' => (owns_lt hoV g hg').1
      by_cases hlt : k < n
      · have hkl : k < ls.length := by have := HL.out; omega
        have HS := hid (Ch.lv_leaf hs k)
        obtain ⟨b, off, ai, ni, ci, rfl, hc, hr, hni⟩ := h.leaf hlt
        have HRl := hr.rlen
        have hni' : ni ≤ 1048576 := by have := HS.out; have := HRl.out; omega
        have hcr := keep_cell hbw hc
        have hbl := lt_of_cell hcr
        have hl0 := hg k hlt
        have hni0 : 0 < ni := by have := HRl.out; omega
        have HNo := hid (fun (e : k ≠ p) => Ch.putAcc_no ls ⟨rk, rv, rg⟩ e)
        have HYe := hid (fun (e : k = p) => by subst e; exact Ch.putAcc_yes ls ⟨rk, rv, rg⟩ k : k = p → Ch.putAcc ls ⟨rk, rv, rg⟩ p (k + 1) = Ch.putAcc ls ⟨rk, rv, rg⟩ p k ++ Ch.halves (Ch.into ⟨rk, rv, rg⟩ (ls.getD k [])))
        generalize ls.getD k [] = l at *
        generalize hDL : Ch.putAcc ls ⟨rk, rv, rg⟩ p k = DL at *
        clear hDL HS hl0
        obtain ⟨bi, oi, rfl, hci⟩ := hr.2 (by omega)
        have hbi : bi < w.heap.size := by
          have h0 := hci 0 (by omega)
          have hx : (rcells l)[0]? = some ((rcells l)[0]'(by rw [hr.1]; omega)) := by simp
          rw [hx] at h0
          exact lt_of_cell h0
        have hrr := hr.below hbw
        have rf : RefR wr (.slice a' m c') (some ⟨bi, oi, none⟩) ni l := ⟨hrr, hni, fun b off e => by
          cases e
          exact ⟨by have := hbw.size; omega, fun e2 => by have := hqb _ e2; have := HBe.out; omega⟩⟩
        clear hci
        by_cases hkp : k = p
        · have HY := hid (HYe.out hkp)
          have hne : ((k : Int) != (p : Int)) = false := by simp; omega
          clear HNo HYe hkp
          go_upto_region 10 with fail
          refine wp_region_noPanic ?_
          refine wp_region_held_drew (S := fun W' => W'.cell? ⟨b, off + k, none⟩ = some (.slice (some ⟨bi, oi, none⟩) ni ci) ∧ W'.cell? ⟨w.heap.size, 0, none⟩ = some (.int .i64 rk) ∧ W'.cell? ⟨w.heap.size, 1, none⟩ = some (.int .i64 rv) ∧ W'.cell? ⟨w.heap.size, 2, none⟩ = some (.bool rg)) (by kernel_rfl) (⟨hcr, r0, r1, r2⟩) (fun hH => ?_)
          refine hTake (i := 0) (v := ?_) rfl (by kernel_rfl) (by kernel_rfl) (by kernel_rfl) (by rfl) ?_ hH ?_
          rotate_left
          · intro W hW; (try dsimp only at hW); go_simp <;> with_reducible rfl
          simp only [Act.put, List.setIfInBounds_toArray, List.set_cons_zero, List.set_cons_succ]
          refine hTake (i := 1) (v := ?_) rfl (by kernel_rfl) (by kernel_rfl) (by kernel_rfl) (by rfl) ?_ hH ?_
          rotate_left
          · intro W hW; (try dsimp only at hW); go_simp <;> with_reducible rfl
          simp only [Act.put, List.setIfInBounds_toArray, List.set_cons_zero, List.set_cons_succ]
          refine hTake (i := 2) (v := ?_) rfl (by kernel_rfl) (by kernel_rfl) (by kernel_rfl) (by rfl) ?_ hH ?_
          rotate_left
          · intro W hW; (try dsimp only at hW); go_simp <;> with_reducible rfl
          simp only [Act.put, List.setIfInBounds_toArray, List.set_cons_zero, List.set_cons_succ]
          refine hTake (i := 3) (v := ?_) rfl (by kernel_rfl) (by kernel_rfl) (by kernel_rfl) (by rfl) ?_ hH ?_
          rotate_left
          · intro W hW; (try dsimp only at hW); go_simp <;> with_reducible rfl
          simp only [Act.put, List.setIfInBounds_toArray, List.set_cons_zero, List.set_cons_succ]
          refine hTake (i := 4) (v := ?_) rfl (by kernel_rfl) (by kernel_rfl) (by kernel_rfl) (by rfl) ?_ hH ?_
          rotate_left
          · intro W hW; (try dsimp only at hW); go_simp <;> with_reducible rfl
          simp only [Act.put, List.setIfInBounds_toArray, List.set_cons_zero, List.set_cons_succ]
          refine hTake (i := 5) (v := ?_) rfl (by kernel_rfl) (by kernel_rfl) (by kernel_rfl) (by rfl) ?_ hH ?_
          rotate_left
          · intro W hW; (try dsimp only at hW); go_simp <;> with_reducible rfl
          simp only [Act.put, List.setIfInBounds_toArray, List.set_cons_zero, List.set_cons_succ]
          refine wpAnyH_ready (rs := [6]) (by kernel_rfl) (by simp) ?_
          refine AllReadyH.cons rfl (fun K hK => ?_) AllReadyH.nil
          go_simp
          refine (specInto_any (some ⟨bi, oi, none⟩) ni ci l rk rv rg wr.drew hrr (by omega)).mono ?_
          rintro e w4 ⟨a4, m4, c4, rfl, own4, b4⟩
          go_wp2_with fail
          refine hK.out _ _ ?_ (fun hH => ?_)
          · exact ⟨keep_cell b4 hH.1, keep_cell b4 hH.2.1, keep_cell b4 hH.2.2.1, keep_cell b4 hH.2.2.2⟩
          clear hK K
          refine hTake (i := 7) (v := ?_) rfl (by kernel_rfl) (by kernel_rfl) (by kernel_rfl) (by rfl) ?_ hH ?_
          rotate_left
          · intro W hW; (try dsimp only at hW); go_simp <;> with_reducible rfl
          simp only [Act.put, List.setIfInBounds_toArray, List.set_cons_zero, List.set_cons_succ]
          refine wpAnyH_done (by kernel_rfl) ?_ _
          refine NoPanic.normal ?_
          clear hH
          have b4' : Below wr.heap.size wr w4 := ⟨b4.os, b4.tape, b4.output, b4.size, b4.block⟩
          have hB4 := hB.trans (b4'.mono hBs)
          have hBs4 : B ≤ w4.heap.size := by have := b4'.size; omega
          have hoV4 := owns_below hoV b4'
          have HM : Hid (m4 = (Ch.into ⟨rk, rv, rg⟩ l).length) := by show _ = _; have := own4.1; rw [rcells_len] at this; omega
          have hm1 : 1 ≤ m4 := by have := HM.out; have := Ch.into_pos ⟨rk, rv, rg⟩ l; omega
          have hm4 : m4 ≤ 1048577 := by have := HM.out; have := Ch.into_len ⟨rk, rv, rg⟩ l; have := HRl.out; omega
          generalize Ch.into ⟨rk, rv, rg⟩ l = il at *
          obtain ⟨g4, rfl⟩ : ∃ g4, a4 = some ⟨g4, 0, none⟩ := by
            rcases own4.2 with ⟨_, h0⟩ | ⟨g', cp, cur, hv, _⟩
            · omega
            · simp only [Value.slice.injEq] at hv
              exact ⟨g', hv.1⟩
          have L4 := owns_bounds own4
          have hc4 := owns_capN own4
          have hcl := owns_cells own4
          have hno : (Value.slice a' m c').ownBlock ≠ some g4 := fun e => by
            have h1 := (owns_lt hoV g4 e).2
            have h2 : wr.heap.size ≤ g4 := L4.1
            omega
          have hlt4 : g4 < w4.heap.size := L4.2
          clear own4 b4 rf hrr hr hc hcr hbl hoV
          by_cases h4 : m4 ≤ 4
          · have HH : Hid (Ch.putAcc ls ⟨rk, rv, rg⟩ p (k + 1) = DL ++ [il]) := by show _ = _; rw [HY.out, Ch.halves, if_pos (by have := HM.out; omega)]
            clear HY
            go_wp2_with (at_builtin; go_must (refine wpList_appLv (.tmp 48) (.tmp 51) B (.slice a' m c') m vs 1 [.slice (some ⟨g4, 0, none⟩) m4 c4] hsum1 (by simp [Value.oneCell']) ?_ ?_ ?_ ?_ ?_ ?_ ?_ (by omega); exact rfl; exact rfl; exact rfl; exact ⟨_, _, rfl, one_leaf rfl⟩; exact owns_below hoV4 (bA _ _); (focus (simp; omega)); intro a3 c3 w3 own3 gr3 at3))
            go_roundw
            case rel =>
              refine ⟨k + 1, m + 1, a3, c3, vs ++ [.slice (some ⟨g4, 0, none⟩) m4 c4], by omega, by omega, by go_num, rfl, ?_, ?_⟩
              · rw [HH.out]
                exact own.app (b4'.alloc b4'.size _) rfl rfl (fun i hi => by
                  obtain rfl : i = 0 := by simpa using hi
                  exact ⟨w4, _, _, _, rfl, bA _ _, hcl, by omega, fun b off e => by cases e; exact ⟨hlt4, hno⟩⟩) own3 gr3 at3
              · exact (hB4.alloc hBs4 _).grown gr3 (by simp; omega) (fun j hj => hqb j hj)
            case measure => simp [intOf]; omega
          · have HH : Hid (Ch.putAcc ls ⟨rk, rv, rg⟩ p (k + 1) = DL ++ [il.take (m4 / 2), il.drop (m4 / 2)]) := by show _ = _; rw [HY.out, Ch.halves, if_neg (by have := HM.out; omega), HM.out]
            have hcL := hcl.cutL (k := m4 / 2) (by omega)
            have hcR := hcl.cutR (k := m4 / 2) (by omega)
            obtain ⟨hf, hhf⟩ : ∃ hf, hf = m4 / 2 := ⟨_, rfl⟩
            have hq : (m4 : Int).tdiv 2 = (hf : Int) := by rw [Int.tdiv_eq_ediv_of_nonneg (by omega)]; omega
            rw [← hhf] at HH hcL hcR
            have hh1 : hf ≤ m4 := by omega
            have hh2 : hf ≤ c4 := by omega
            have hh3 : ¬ c4 = hf := by omega
            have h4' : ¬ (m4 : Int) ≤ 4 := by omega
            clear HY hhf h4 hcl
            rw [Nat.zero_add] at hcR
            go_upto_region 14 with fail
            refine wp_region_noPanic ?_
            refine wp_region_held_drew (S := fun _ => True) (by kernel_rfl) trivial (fun hH => ?_)
            refine hTake (i := 0) (v := ?_) rfl (by kernel_rfl) (by kernel_rfl) (by kernel_rfl) (by rfl) ?_ hH ?_
            rotate_left
            · intro W hW; (try dsimp only at hW); go_simp <;> with_reducible rfl
            simp only [Act.put, List.setIfInBounds_toArray, List.set_cons_zero, List.set_cons_succ]
            refine hTake (i := 1) (v := ?_) rfl (by kernel_rfl) (by kernel_rfl) (by kernel_rfl) (by rfl) ?_ hH ?_
            rotate_left
            · intro W hW; (try dsimp only at hW); go_simp <;> with_reducible rfl
            simp only [Act.put, List.setIfInBounds_toArray, List.set_cons_zero, List.set_cons_succ]
            refine hTake (i := 2) (v := ?_) rfl (by kernel_rfl) (by kernel_rfl) (by kernel_rfl) (by rfl) ?_ hH ?_
            rotate_left
            · intro W hW; (try dsimp only at hW); go_simp <;> with_reducible rfl
            simp only [Act.put, List.setIfInBounds_toArray, List.set_cons_zero, List.set_cons_succ]
            refine hTake (i := 3) (v := ?_) rfl (by kernel_rfl) (by kernel_rfl) (by kernel_rfl) (by rfl) ?_ hH ?_
            rotate_left
            · intro W hW; (try dsimp only at hW); go_simp <;> with_reducible rfl
            simp only [Act.put, List.setIfInBounds_toArray, List.set_cons_zero, List.set_cons_succ]
            refine hTake (i := 4) (v := ?_) rfl (by kernel_rfl) (by kernel_rfl) (by kernel_rfl) (by rfl) ?_ hH ?_
            rotate_left
            · intro W hW; (try dsimp only at hW); go_simp <;> with_reducible rfl
            simp only [Act.put, List.setIfInBounds_toArray, List.set_cons_zero, List.set_cons_succ]
            refine hTake (i := 5) (v := ?_) rfl (by kernel_rfl) (by kernel_rfl) (by kernel_rfl) (by rfl) ?_ hH ?_
            rotate_left
            · intro W hW; (try dsimp only at hW); go_simp <;> with_reducible rfl
            simp only [Act.put, List.setIfInBounds_toArray, List.set_cons_zero, List.set_cons_succ]
            refine hTake (i := 6) (v := ?_) rfl (by kernel_rfl) (by kernel_rfl) (by kernel_rfl) (by rfl) ?_ hH ?_
            rotate_left
            · intro W hW; (try dsimp only at hW); go_simp <;> with_reducible rfl
            simp only [Act.put, List.setIfInBounds_toArray, List.set_cons_zero, List.set_cons_succ]
            refine hTake (i := 7) (v := ?_) rfl (by kernel_rfl) (by kernel_rfl) (by kernel_rfl) (by rfl) ?_ hH ?_
            rotate_left
            · intro W hW; (try dsimp only at hW); go_simp <;> with_reducible rfl
            simp only [Act.put, List.setIfInBounds_toArray, List.set_cons_zero, List.set_cons_succ]
            refine hTake (i := 8) (v := ?_) rfl (by kernel_rfl) (by kernel_rfl) (by kernel_rfl) (by rfl) ?_ hH ?_
            rotate_left
            · intro W hW; (try dsimp only at hW); go_simp <;> with_reducible rfl
            simp only [Act.put, List.setIfInBounds_toArray, List.set_cons_zero, List.set_cons_succ]
            refine wpAnyH_ready (rs := [9]) (by kernel_rfl) (by simp) ?_
            refine AllReadyH.cons rfl (fun K hK => ?_) AllReadyH.nil
            go_simp
            refine hK.out _ _ trivial (fun hH => ?_)
            clear hK K
            refine wpAnyH_ready (rs := [10]) (by kernel_rfl) (by simp) ?_
            refine AllReadyH.cons rfl (fun K hK => ?_) AllReadyH.nil
            refine step_appLv (.tmp 56) (.tmp 65) B (.slice a' m c') m vs 2 [.slice (some ⟨g4, 0, none⟩) hf c4, .slice (some ⟨g4, hf * 3, none⟩) (m4 - hf) (c4 - hf)] hsum2 (by simp [Value.oneCell']) ?_ ?_ ?_ ?_ ?_ ?_ ?_ (by omega)
            · exact rfl
            · exact rfl
            · exact rfl
            · exact ⟨_, _, rfl, two_leaves rfl⟩
            · exact owns_below hoV4 ((Below.refl _ _).drew.alloc (Nat.le_refl _) _)
            · simp; omega
            intro a3 c3 w3 own3 gr3 at3
            refine hK.out _ _ trivial (fun hH => ?_)
            clear hK K
            refine hTake (i := 11) (v := ?_) rfl (by kernel_rfl) (by kernel_rfl) (by kernel_rfl) (by rfl) ?_ hH ?_
            rotate_left
            · intro W hW; (try dsimp only at hW); go_simp <;> with_reducible rfl
            simp only [Act.put, List.setIfInBounds_toArray, List.set_cons_zero, List.set_cons_succ]
            refine wpAnyH_done (by kernel_rfl) ?_ _
            refine NoPanic.normal ?_
            clear hH
            have bD : ∀ o, Below w4.heap.size w4 (w4.drew.alloc o) := fun o => (Below.refl _ _).drew.alloc (Nat.le_refl _) _
            go_wp2
            go_roundw
            case rel =>
              refine ⟨k + 1, m + 2, a3, c3, vs ++ [.slice (some ⟨g4, 0, none⟩) hf c4, .slice (some ⟨g4, hf * 3, none⟩) (m4 - hf) (c4 - hf)], by omega, by omega, by go_num, rfl, ?_, ?_⟩
              · rw [HH.out]
                exact own.app (b4'.drew.alloc b4'.size _) rfl rfl (fun i hi => by
                  rcases (show i = 0 ∨ i = 1 by simp at hi; omega) with rfl | rfl
                  · exact ⟨w4, _, _, _, rfl, bD _, hcL, by omega, fun b off e => by cases e; exact ⟨hlt4, hno⟩⟩
                  · exact ⟨w4, _, _, _, rfl, bD _, hcR, by omega, fun b off e => by cases e; exact ⟨hlt4, hno⟩⟩) own3 gr3 at3
              · exact (hB4.drew.alloc hBs4 _).grown gr3 (by simp; omega) (fun j hj => hqb j hj)
            case measure => simp [intOf]; omega
        · have HN := hid (HNo.out hkp)
          have hne : ((k : Int) != (p : Int)) = true := by simp; omega
          clear HNo HYe hkp
          go_wp2_with (at_builtin; go_must (refine wpList_appLv (.tmp 31) (.tmp 36) B (.slice a' m c') m vs 1 [.slice (some ⟨bi, oi, none⟩) ni ci] hsum1 (by simp [Value.oneCell']) ?_ ?_ ?_ ?_ ?_ ?_ ?_ (by omega); exact rfl; exact rfl; exact rfl; exact ⟨_, _, rfl, one_leaf rfl⟩; exact owns_below hoV (bA _ _); (focus (simp; omega)); intro a3 c3 w3 own3 gr3 at3))
          go_roundw
          case rel =>
            refine ⟨k + 1, m + 1, a3, c3, vs ++ [.slice (some ⟨bi, oi, none⟩) ni ci], by omega, by omega, by go_num, rfl, ?_, ?_⟩
            · rw [HN.out]
              exact own.app (bA _ _) rfl rfl (fun i hi => by
                obtain rfl : i = 0 := by simpa using hi
                exact ⟨wr, _, _, _, rfl, bA _ _, rf⟩) own3 gr3 at3
            · exact (hB.alloc hBs _).grown gr3 (by simp; omega) (fun j hj => hqb j hj)
          case measure => simp [intOf]; omega
      · obtain rfl : k = n := by omega
        have hat := own.at
        rw [HP.out] at hat own
        have hml := own.1
        go_wp2_with fail
        refine (specCopy_any a' m c' (Ch.put ls ⟨rk, rv, rg⟩) wr hat (Ch.put_size HF.out) (fun i hi => Ch.put_full HF.out i (by omega))).mono ?_
        rintro e w5 ⟨a5, c5, rfl, own5, b5⟩
        go_wp2
        go_ret
        exact ⟨a5, m, c5, rfl, own5.base hbw.size, hbw.trans (b5.mono hbw.size)⟩
end Go.Proofs.Ytjjbjdjkcckgmaa
