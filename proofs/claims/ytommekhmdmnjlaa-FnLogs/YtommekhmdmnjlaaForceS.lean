
/- ForceWal of the model. -/
import Derived.Test.YtommekhmdmnjlaaForceW
namespace Go.Proofs.Ytommekhmdmnjlaa
open Go.RowKit

theorem step_appS {ops : Array Oper} {o : Oper} {a : Act} {w : World} {K : Act → World → Prop} {Q : Exit → Act → World → Prop} {E : Prop} (s x : Operand)
    (B n : Nat) (xs : List Value) (m : Nat) (zs : List Int) (hm : n + m ≤ 1099511627776)
    (ho : o.op = .call { callee := .builtin .append, args := #[s, x], argTypes := #[22, 22] }) (hgd : o.guard = none)
    (hs : ∃ g cp, a.eval s = .slice (some ⟨g, 0, none⟩) n cp ∧ w.ownsRow B 5 1 (.slice (some ⟨g, 0, none⟩) n cp) n xs)
    (hx : ∃ ad c, a.eval x = .slice (some ad) m c ∧ CellsAt w (some ad) m (bts zs)) (hbase : B ≤ w.heap.size)
    (hK : ∀ g' c' w', w'.ownsRow B 5 1 (.slice (some ⟨g', 0, none⟩) (n + m) c') (n + m) (xs ++ bts zs) → Below B w w' → K (a.put o.dst (.slice (some ⟨g', 0, none⟩) (n + m) c')) w') :
    if Region.wanted o (yielded ops a.tmps) = true then Oper.wp Try.prog o a w K Q else E := by
  have hw : Region.wanted o (yielded ops a.tmps) = true := by simp [Region.wanted, hgd]
  rw [if_pos hw]
  obtain ⟨g, cp, hs, hown⟩ := hs
  obtain ⟨ad, c, hx, hc⟩ := hx
  obtain ⟨i0, hi, hz0, hz1, hz2⟩ := info_parts Try.info5
  have hl := hc.len.out
  refine wp_append_own w s x 22 ho B 5 i0 _ 1 1 Try.underlying22 hi hz0 hz1 hz2 rfl (by omega) _ n xs hs hown ad m c (bts zs) hx (by simp [bts]; omega) ?_ ?_ (by unfold maxLen; omega) (by omega) hbase ?_
  · intro j u hj
    have hjl : j < (bts zs).length := (List.getElem?_eq_some_iff.1 hj).1
    simp [bts] at hjl
    obtain ⟨b, off, ha, hcc⟩ := hc.2 (by omega)
    simp only [Option.some.injEq] at ha
    subst ha
    have e : (⟨b, off, none⟩ : Addr).add j = ⟨b, off + j, none⟩ := by
      unfold Addr.add
      split
      · next h0 => subst h0; rfl
      · rfl
    rw [e, hcc j (by omega), hj]
  · intro u hu
    obtain ⟨z, _, rfl⟩ := List.mem_map.1 hu
    rfl
  · intro v' w' hown' hgrow hiff
    have hb : Below B w w' := (Below.refl _ _).grown hgrow hbase (fun k hk => by
      have := (owns_bounds hown).1
      simp [Value.ownBlock] at hk
      omega)
    rcases hown'.2 with ⟨hv, _⟩ | ⟨g', c', cur, hv, _⟩
    · have := (hiff.1 hv).1
      simp at this
    · subst hv
      exact hK g' c' w' hown' hb

set_option linter.unusedSimpArgs false in
set_option maxHeartbeats 2000000 in
theorem specForce_ok (ad ad' : Addr) (n m cap cap' : Nat) (ss ls : List Int) (w : World) (h : CellsAt w (some ad) n (bts ss)) (h' : CellsAt w (some ad') m (bts ls)) (hb : IsB ss) (hb' : IsB ls) (hn : n ≤ 1048576) (hm : m ≤ 1048576) (hcap : n ≤ cap) (hcap' : m ≤ cap') (h0 : Ch.walFault ss ls = 0) :
    Calls Try.prog 55 #[.agg #[.slice (some ad) n cap, .slice (some ad') m cap']] w fun e w' => ∃ a1 c1 a2 c2, e = .returned (.agg #[.int .i64 0, .int .i64 (Ch.reads (ss ++ ls)).length, .slice a1 (n + m) c1, .slice a2 0 c2]) ∧ w'.ownsRow w.heap.size 5 1 (.slice a1 (n + m) c1) (n + m) (bts (ss ++ ls)) ∧ Below w.heap.size w w' := by
  have b0 : Below w.heap.size w ((w.alloc (.cells #[.slice (some ad) n cap, .slice (some ad') m cap'] 25)).alloc (.cells #[.int .i64 0, .int .i64 0, .slice none 0 0, .slice none 0 0] 29)) := ((Below.refl _ _).alloc (Nat.le_refl _) _).alloc (by simp) _
  have hd0 : ((0 : Int) != 0) = false := by simp
  have hsum : n + m ≤ 4000 := by
    have e1 := h.len.out
    have e2 := h'.len.out
    unfold Ch.walFault at h0
    by_cases hbig : 4000 < ss.length + ls.length
    · rw [if_pos hbig] at h0; omega
    · omega
  go_enter Try.func55, Try.ntmps55
  go_wp2_with fail
  refine (l2Fault_any w.heap.size _ _ n m cap cap' ss ls _ (by simp) (by simp) (h.below b0) (h'.below b0) hb hb' hn hm hcap hcap').mono ?_
  rw [h0]
  rintro e w1 ⟨rfl, b1⟩
  have b1A := below_box2 b1
  clear b1
  go_upto_region 4 with fail
  have HS : Hid (∀ W', Below (w.heap.size + 1) ((w.alloc (.cells #[.slice (some ad) n cap, .slice (some ad') m cap'] 25)).alloc (.cells #[.int .i64 0, .int .i64 0, .slice none 0 0, .slice none 0 0] 29)) W' → W'.cell? ⟨w.heap.size, 0, none⟩ = some (.slice (some ad) n cap) ∧ W'.cell? ⟨w.heap.size, 1, none⟩ = some (.slice (some ad') m cap') ∧ Below (w.heap.size + 1) ((w.alloc (.cells #[.slice (some ad) n cap, .slice (some ad') m cap'] 25)).alloc (.cells #[.int .i64 0, .int .i64 0, .slice none 0 0, .slice none 0 0] 29)) W') := fun W' hb' => ⟨by simpa using box_at (below_boxU hb') 0, by simpa using box_at (below_boxU hb') 1, hb'⟩
  have hz1 := b1A.size
  simp at hz1
  have bq : Below (w.heap.size + 2) ((w.alloc (.cells #[.slice (some ad) n cap, .slice (some ad') m cap'] 25)).alloc (.cells #[.int .i64 0, .int .i64 0, .slice none 0 0, .slice none 0 0] 29)) (w1.drew.alloc (.cells #[] 5)) := (b1A.drew).alloc (by simpa using hz1) _
  have eo := empty_own w1.drew (w.heap.size + 2) (by simpa using hz1)
  have zq := bq.size
  simp at zq
  refine wp_region_noPanic ?_
  refine wp_region_held_drew (S := fun W' => W'.cell? ⟨w.heap.size, 0, none⟩ = some (.slice (some ad) n cap) ∧ W'.cell? ⟨w.heap.size, 1, none⟩ = some (.slice (some ad') m cap') ∧ Below (w.heap.size + 1) ((w.alloc (.cells #[.slice (some ad) n cap, .slice (some ad') m cap'] 25)).alloc (.cells #[.int .i64 0, .int .i64 0, .slice none 0 0, .slice none 0 0] 29)) W') (by kernel_rfl) (HS.out _ (b1A.drew.mono (by omega))) (fun hH => ?_)
  refine hTake (i := 1) (v := ?_) rfl (by kernel_rfl) (by kernel_rfl) (by kernel_rfl) (by rfl) ?_ hH ?_
  rotate_left
  · intro W hW; (try dsimp only at hW); go_simp <;> with_reducible rfl
  simp only [Act.put, List.setIfInBounds_toArray, List.set_cons_zero, List.set_cons_succ]
  refine hTake (i := 2) (v := ?_) rfl (by kernel_rfl) (by kernel_rfl) (by kernel_rfl) (by rfl) ?_ hH ?_
  rotate_left
  · intro W hW; (try dsimp only at hW); go_simp <;> with_reducible rfl
  simp only [Act.put, List.setIfInBounds_toArray, List.set_cons_zero, List.set_cons_succ]
  refine hTake (i := 4) (v := ?_) rfl (by kernel_rfl) (by kernel_rfl) (by kernel_rfl) (by rfl) ?_ hH ?_
  rotate_left
  · intro W hW; (try dsimp only at hW); go_simp <;> with_reducible rfl
  simp only [Act.put, List.setIfInBounds_toArray, List.set_cons_zero, List.set_cons_succ]
  refine hTake (i := 5) (v := ?_) rfl (by kernel_rfl) (by kernel_rfl) (by kernel_rfl) (by rfl) ?_ hH ?_
  rotate_left
  · intro W hW; (try dsimp only at hW); go_simp <;> with_reducible rfl
  simp only [Act.put, List.setIfInBounds_toArray, List.set_cons_zero, List.set_cons_succ]
  refine wpAnyH_ready (rs := [0]) (by kernel_rfl) (by simp) ?_
  refine AllReadyH.cons rfl (fun K hK => ?_) AllReadyH.nil
  go_simp
  refine hK.out _ _ ?_ (fun hH => ?_)
  · exact HS.out _ (bq.mono (by omega))
  clear hK K
  refine wpAnyH_ready (rs := [3]) (by kernel_rfl) (by simp) ?_
  refine AllReadyH.cons rfl (fun K hK => ?_) AllReadyH.nil
  refine step_appS (.tmp 9) (.tmp 11) (w.heap.size + 2) 0 [] n ss (by omega) rfl rfl ⟨_, _, rfl, eo⟩ ⟨_, _, rfl, h.below (below_boxS (below_boxU (bq.mono (by omega))))⟩ (by simp; omega) ?_
  intro g2 k2 w2 o2 bb2
  have b2A : Below (w.heap.size + 2) ((w.alloc (.cells #[.slice (some ad) n cap, .slice (some ad') m cap'] 25)).alloc (.cells #[.int .i64 0, .int .i64 0, .slice none 0 0, .slice none 0 0] 29)) w2 := bq.trans bb2
  rw [Nat.zero_add] at o2 ⊢
  rw [List.nil_append] at o2
  have z2 := b2A.size
  simp at z2
  refine hK.out _ _ ?_ (fun hH => ?_)
  · exact HS.out _ (b2A.mono (by omega))
  clear hK K
  simp only [Act.put, List.setIfInBounds_toArray, List.set_cons_zero, List.set_cons_succ]
  refine wpAnyH_ready (rs := [6]) (by kernel_rfl) (by simp) ?_
  refine AllReadyH.cons rfl (fun K hK => ?_) AllReadyH.nil
  refine step_appS (.tmp 12) (.tmp 14) (w.heap.size + 2) n (bts ss) m ls (by omega) rfl rfl ⟨_, _, rfl, o2⟩ ⟨_, _, rfl, h'.below (below_boxS (below_boxU (b2A.mono (by omega))))⟩ z2 ?_
  intro g3 k3 w3 o3 bb3
  have b3A : Below (w.heap.size + 2) ((w.alloc (.cells #[.slice (some ad) n cap, .slice (some ad') m cap'] 25)).alloc (.cells #[.int .i64 0, .int .i64 0, .slice none 0 0, .slice none 0 0] 29)) w3 := b2A.trans bb3
  rw [← bts_append] at o3
  have z3 := b3A.size
  simp at z3
  have hk3 := owns_cap o3
  refine hK.out _ _ ?_ (fun hH => ?_)
  · exact HS.out _ (b3A.mono (by omega))
  clear hK K
  simp only [Act.put, List.setIfInBounds_toArray, List.set_cons_zero, List.set_cons_succ]
  refine wpAnyH_ready (rs := [7]) (by kernel_rfl) (by simp) ?_
  refine AllReadyH.cons rfl (fun K hK => ?_) AllReadyH.nil
  go_simp
  refine (l2Of_nil ⟨g3, 0, none⟩ (n + m) k3 (ss ++ ls) _ (owns_bytes o3) (isB_append hb hb') (by omega) hk3).mono ?_
  rintro e w4 ⟨a4, k4, a5, k5, rfl, o4, b4⟩
  have b4A : Below (w.heap.size + 2) ((w.alloc (.cells #[.slice (some ad) n cap, .slice (some ad') m cap'] 25)).alloc (.cells #[.int .i64 0, .int .i64 0, .slice none 0 0, .slice none 0 0] 29)) w4 := b3A.trans (b4.mono z3)
  generalize hpp : (Ch.reads (ss ++ ls)).length = p at *
  go_wp2_with fail
  refine hK.out _ _ ?_ (fun hH => ?_)
  · exact HS.out _ (b4A.mono (by omega))
  clear hK K
  have hRw : w4.heap[w.heap.size + 1]? = some (.cells #[.int .i64 0, .int .i64 0, .slice none 0 0, .slice none 0 0] 29 (0, 0)) := (b4A.block (w.heap.size + 1) (by omega)).trans (heap_new' (by simp))
  obtain ⟨x0, x1, x2, x3⟩ := row4 hRw
  obtain ⟨f0, f1, f2, f3⟩ := frz4 hRw
  have bE := below_boxS (below_boxT b4A)
  refine wpAnyH_ready (rs := [8]) (by kernel_rfl) (by simp) ?_
  refine AllReadyH.cons rfl (fun K hK => ?_) AllReadyH.nil
  go_simp
  refine hK.out _ _ ?_ (fun hH => ?_)
  · exact HS.out _ (((((b4A.mono (show w.heap.size + 1 ≤ w.heap.size + 2 by omega)).setCell (p := ⟨w.heap.size + 1, 0, none⟩) (by simp) _).setCell (p := ⟨w.heap.size + 1, 1, none⟩) (by simp) _).setCell (p := ⟨w.heap.size + 1, 2, none⟩) (by simp) _).setCell (p := ⟨w.heap.size + 1, 3, none⟩) (by simp) _)
  clear hK K
  refine wpAnyH_done (by kernel_rfl) ?_ _
  refine NoPanic.normal ?_
  clear hH HS
  go_wp2
  refine bodyPost_ret (v := .agg #[.int .i64 0, .int .i64 p, .slice a4 (n + m) k4, .slice a5 0 k5]) (by simp [results, Try.results55, go_sem, x0, x1, x2, x3]) rfl ⟨a4, k4, a5, k5, by rw [hpp], ?_, (((bE.setCell (p := ⟨w.heap.size + 1, 0, none⟩) (by simp) _).setCell (p := ⟨w.heap.size + 1, 1, none⟩) (by simp) _).setCell (p := ⟨w.heap.size + 1, 2, none⟩) (by simp) _).setCell (p := ⟨w.heap.size + 1, 3, none⟩) (by simp) _⟩
  exact owns_base (ownsRow_setCell_below (a := ⟨w.heap.size + 1, 3, none⟩) (ownsRow_setCell_below (a := ⟨w.heap.size + 1, 2, none⟩) (ownsRow_setCell_below (a := ⟨w.heap.size + 1, 1, none⟩) (ownsRow_setCell_below (a := ⟨w.heap.size + 1, 0, none⟩) o4 (by simp; omega) _) (by simp; omega) _) (by simp; omega) _) (by simp; omega) _) (by omega)
end Go.Proofs.Ytommekhmdmnjlaa
