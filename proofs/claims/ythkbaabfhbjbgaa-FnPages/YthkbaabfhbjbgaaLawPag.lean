/- The walk of the law FnPages out of the contracts. -/
import Derived.Test.YthkbaabfhbjbgaaPagE
import Derived.Test.YthkbaabfhbjbgaaPagM
import Derived.Test.YthkbaabfhbjbgaaLawUnp
namespace Go.Proofs.Ythkbaabfhbjbgaa
open Go.RowKit

theorem Ch.unp_zero {zs : List Int} (hb : Ch.AllB zs) (h : (Ch.unp zs).1 = 0) : Ch.pageFault (Ch.unp zs).2 = 0 ∧ Ch.pageB (Ch.unp zs).2 = zs := by
  refine ⟨?_, Ch.page_of_unp hb (by rw [← h])⟩
  unfold Ch.unp at h ⊢
  cases hL : Ch.lenOk zs
  · simp [hL] at h
  · cases hS : Ch.sumOk zs
    · simp [hL, hS] at h
    · cases hG : Ch.goodB (Ch.rowPart zs) (Ch.many zs)
      · simp [hL, hS, hG] at h
      · by_cases hF : Ch.pageFault (Ch.rowsIn (Ch.rowPart zs) (Ch.many zs)) = 0
        · simp [hF]
        · simp [hL, hS, hG, hF] at h

theorem field30 (x : Int) (a : Option Addr) (n c : Nat) (W : World) : (Instr.field 30 (.agg #[.int .i64 x, .slice a n c]) 1).run Try.prog W = .ok (.slice a n c) W := by kernel_rfl
theorem field27 (x : Int) (a : Option Addr) (n c : Nat) (W : World) : (Instr.field 27 (.agg #[.int .i64 x, .slice a n c]) 0).run Try.prog W = .ok (.int .i64 x) W := by kernel_rfl

theorem pack_back (a : Option Addr) (n cap m : Nat) (rs : List Ch.Row) (ys : List Int) (w : World) (h : CellsAt w a (n * 3) (rcells rs)) (hn : n ≤ 1099511627776) (F : Hid (Ch.pageFault rs = 0)) (P : Hid (Ch.pageB rs = ys)) (L : Hid (m = ys.length)) :
    Calls Try.prog 12 #[.slice a n cap] w fun e w' => ∃ g cp, e = .returned (.agg #[.int .i64 0, .slice (some ⟨g, 0, none⟩) m cp]) ∧ CellsAt w' (some ⟨g, 0, none⟩) m (bts ys) ∧ Below w.heap.size w w' := by
  have hl := h.rlen.out
  have hm : m = 3 + 4 * n := by
    have e := congrArg List.length P.out
    unfold Ch.pageB Ch.withSum at e
    rw [List.length_append, Ch.packed_len] at e
    simp at e
    have := L.out
    omega
  refine (implPack_ok a n cap rs w h hn F.out).mono ?_
  rintro e w' ⟨g, cp, rfl, own, b⟩
  subst hm
  rw [P.out] at own
  exact ⟨g, cp, rfl, owns_bytes own, b⟩

theorem hTake {P : Program} {l : List Oper} {Q : Exit → Act → World → Prop} {md : Region.Mode} {S : World → Prop} {i : Nat} {oi : Oper} {v : Value} {fuel : Nat} {listed : Array Bool} {a : Act} {w : World} (hi : l[i]? = some oi)
    (hs : Region.noSelect l.toArray = true) (hf : Region.free md l.toArray listed i = true) (hr : (Region.ready md l.toArray listed).contains i = true)
    (hw : Region.wanted oi (yielded l.toArray a.tmps) = true) (hy : ∀ W, S W → (execOp a.eval oi).run P W = .ok (.value v) W) (hS : S w)
    (h : wpAnyH P md l.toArray (NoPanic Q) S fuel (listed.setIfInBounds i true) (a.put oi.dst v) w) : wpAnyH P md l.toArray (NoPanic Q) S (fuel + 1) listed a w :=
  wpAnyH_take (by simpa using hi) hs hf hr (fun _ _ _ h => h) (Or.inl ⟨hw, hy⟩) hS h
theorem hSkip {P : Program} {l : List Oper} {Q : Exit → Act → World → Prop} {md : Region.Mode} {S : World → Prop} {i : Nat} {oi : Oper} {fuel : Nat} {listed : Array Bool} {a : Act} {w : World} (hi : l[i]? = some oi)
    (hs : Region.noSelect l.toArray = true) (hf : Region.free md l.toArray listed i = true) (hr : (Region.ready md l.toArray listed).contains i = true)
    (hw : Region.wanted oi (yielded l.toArray a.tmps) = false) (hS : S w)
    (h : wpAnyH P md l.toArray (NoPanic Q) S fuel (listed.setIfInBounds i true) (a.put oi.dst undef) w) : wpAnyH P md l.toArray (NoPanic Q) S (fuel + 1) listed a w :=
  wpAnyH_take (by simpa using hi) hs hf hr (fun _ _ _ h => h) (Or.inr ⟨hw, rfl⟩) hS h

theorem unp_code (a : Option Addr) (n cap : Nat) (zs : List Int) (c : Int) (w : World) (h : CellsAt w a n (bts zs)) (hb : IsB zs) (hn : n ≤ 1048576) (hcap : n ≤ cap) (C : Hid (c = (Ch.unp zs).1)) :
    Calls Try.prog 13 #[.slice a n cap] w fun e w' => ∃ a' m c', e = .returned (.agg #[.int .i64 c, .slice a' m c']) ∧ Below w.heap.size w w' := by
  refine (specUnpack_any a n cap zs w h hb hn hcap).mono ?_
  rintro e w' ⟨a', m, c', rfl, _, _, b⟩
  exact ⟨a', m, c', by rw [C.out], b⟩
theorem Ch.row_fault {rs : List Ch.Row} (h : Ch.pageFault rs = 0) {k : Nat} (hk : k < rs.length) : Ch.rowFault (rs.getD k Ch.Row.zero).k (rs.getD k Ch.Row.zero).v (rs.getD k Ch.Row.zero).g = 0 := by
  have h4 := (Ch.allFit_of_page h).2
  unfold Ch.pageFault at h
  rw [if_neg (by omega)] at h
  have e : rs.getD k Ch.Row.zero = rs[k] := by simp [List.getD, hk]
  rw [e]
  exact Ch.riseFrom_zero h _ (List.getElem_mem hk)
theorem Ch.allB_page {rs : List Ch.Row} (h : Ch.pageFault rs = 0) : Ch.AllB (Ch.pageB rs) := by
  obtain ⟨fit, h4⟩ := Ch.allFit_of_page h
  intro z hz
  rcases List.mem_append.1 hz with hz | hz
  · exact Ch.packed_bytes _ rs (by omega) (by omega) fit z hz
  · exact Ch.sum_bytes _ z hz
theorem unp_back (g n cap m : Nat) (rs : List Ch.Row) (w : World) (h : CellsAt w (some ⟨g, 0, none⟩) m (bts (Ch.pageB rs))) (hn : m = 3 + 4 * n) (hl : n = rs.length) (hcap : m ≤ cap) (h4 : n ≤ 4) (hF : Ch.pageFault rs = 0) :
    Calls Try.prog 11 #[.slice (some ⟨g, 0, none⟩) m cap] w fun e w' => ∃ a' c', e = .returned (.agg #[.int .i64 0, .slice a' n c']) ∧ w'.ownsRow w.heap.size 36 3 (.slice a' n c') n (rcells rs) ∧ Below w.heap.size w w' := by
  refine (implUnpack_any _ m cap _ w h (isB_of (Ch.allB_page hF)) (by omega) hcap).mono ?_
  rintro e w' ⟨a', m', c', rfl, _, o, b⟩
  rw [Ch.unp_of_page hF] at o ⊢
  have e : m' = rs.length := (owns_cells o).rlen.out
  obtain rfl : m' = n := by omega
  exact ⟨a', c', rfl, o, b⟩

theorem specPage_c (a : Option Addr) (n cap : Nat) (rs : List Ch.Row) (c : Int) (w : World) (h : CellsAt w a (n * 3) (rcells rs)) (hn : n ≤ 1099511627776) (C : Hid (c = Ch.pageFault rs)) :
    Calls Try.prog 15 #[.slice a n cap] w fun e w' => e = .returned (.int .i64 c) ∧ Below w.heap.size w w' := by
  rw [C.out]; exact specPage_any a n cap rs w h hn
theorem implPage_c (a : Option Addr) (n cap : Nat) (rs : List Ch.Row) (c : Int) (w : World) (h : CellsAt w a (n * 3) (rcells rs)) (hn : n ≤ 1099511627776) (C : Hid (c = Ch.pageFault rs)) :
    Calls Try.prog 16 #[.slice a n cap] w fun e w' => e = .returned (.int .i64 c) ∧ Below w.heap.size w w' := by
  rw [C.out]; exact implPage_any a n cap rs w h hn

set_option maxHeartbeats 4000000 in
theorem lawPag_any (a : Option Addr) (n cap : Nat) (zs : List Int) (w : World) (h : CellsAt w a n (bts zs)) (hb : IsB zs) :
    Calls Try.prog 3 #[.slice a n cap] w fun e w' => e = .returned (.bool true) ∧ Below w.heap.size w w' := by
  by_cases hbig : 1048576 < n
  · have hd : decide ((1048576 : Int) < (n : Int)) = true := by rw [decide_eq_true_eq]; omega
    go_enter Try.func3, Try.ntmps3
    go_wp2_with fail
    refine (big_any a n cap w).mono ?_
    rintro e w ⟨rfl, rfl⟩
    rw [hd]
    go_wp2
    go_ret
    exact ⟨rfl, Below.refl _ _⟩
  · have hsm : n ≤ 1048576 := by omega
    have hd : decide ((1048576 : Int) < (n : Int)) = false := by rw [decide_eq_false_iff_not]; omega
    clear hbig
    go_enter Try.func3, Try.ntmps3
    go_wp2_with fail
    refine (big_any a n cap w).mono ?_
    rintro e w ⟨rfl, rfl⟩
    rw [hd]
    clear hd
    go_wp2_with fail
    refine (drawUnp_any a n cap zs _ h hb hsm).mono ?_
    rintro e w1 ⟨⟨g1, m1, c1, rfl, hm1, hc1, ys, hys, y1⟩, b1⟩
    have hyb := isB_of hys
    have HY := y1.len
    go_wp2_with fail
    refine (implUnpack_any _ m1 c1 ys _ y1 hyb (by omega) hc1).mono ?_
    rintro e w2 ⟨a2, m2, c2, rfl, hm2, o2, b2⟩
    have y2 := y1.below b2
    have b2' := b1.trans (b2.mono b1.size)
    have z2 := b2'.size
    clear y1 b2 b1
    rcases Decidable.em ((Ch.unp ys).1 = 0) with h0 | h0
    focus
      obtain ⟨f2, p2⟩ := Ch.unp_zero hys h0
      rw [h0]
      have yl : 0 < m1 := by
        have := congrArg List.length p2
        unfold Ch.pageB Ch.withSum at this
        rw [List.length_append] at this
        simp at this
        have := HY.out
        omega
      have F2 : Hid (Ch.pageFault (Ch.unp ys).2 = 0) := f2
      have P2 : Hid (Ch.pageB (Ch.unp ys).2 = ys) := p2
      clear f2 p2 h0
      generalize (Ch.unp ys).2 = rs at *
      go_wp2_with fail
      have HS : Hid (∀ W', Below (w2.alloc (.cells #[.int .i64 0, .slice a2 m2 c2] 27)).heap.size (w2.alloc (.cells #[.int .i64 0, .slice a2 m2 c2] 27)) W' →
          W'.cell? ⟨w2.heap.size, 0, none⟩ = some (.int .i64 0) ∧ W'.cell? ⟨w2.heap.size, 1, none⟩ = some (.slice a2 m2 c2) ∧ (convert 22 9 (.slice (some ⟨g1, 0, none⟩) m1 c1)).run Try.prog W' = .ok (.string (strOfNums ys)) W') := by
        intro W' hb
        exact ⟨by simpa using box_cell hb 0, by simpa using box_cell hb 1, conv_at (y2.below (below_box hb)) yl c1⟩
      refine wp_region_noPanic ?_
      refine wp_region_held_drew (S := (fun W' => W'.cell? ⟨w2.heap.size, 0, none⟩ = some (.int .i64 0) ∧ W'.cell? ⟨w2.heap.size, 1, none⟩ = some (.slice a2 m2 c2) ∧ (convert 22 9 (.slice (some ⟨g1, 0, none⟩) m1 c1)).run Try.prog W' = .ok (.string (strOfNums ys)) W')) (by kernel_rfl) (HS.out _ (Below.refl _ _).drew) (fun hH => ?_)
      refine hTake (i := 0) (v := ?_) rfl (by kernel_rfl) (by kernel_rfl) (by kernel_rfl) (by rfl) ?_ hH ?_
      rotate_left
      · intro W hW; (try dsimp only at hW); go_simp <;> with_reducible rfl
      simp only [Act.put, List.setIfInBounds_toArray, List.set_cons_zero, List.set_cons_succ]
      refine hTake (i := 1) (v := ?_) rfl (by kernel_rfl) (by kernel_rfl) (by kernel_rfl) (by rfl) ?_ hH ?_
      rotate_left
      · intro W hW; (try dsimp only at hW); go_simp <;> with_reducible rfl
      simp only [Act.put, List.setIfInBounds_toArray, List.set_cons_zero, List.set_cons_succ]
      refine hTake (i := 2) (v := ?_) rfl (by kernel_rfl) (by kernel_rfl) (by kernel_rfl) (by rfl) ?_ hH ?_
      rotate_left
      · intro W hW; (try dsimp only at hW); go_simp <;> with_reducible rfl
      simp only [Act.put, List.setIfInBounds_toArray, List.set_cons_zero, List.set_cons_succ]
      refine hTake (i := 3) (v := ?_) rfl (by kernel_rfl) (by kernel_rfl) (by kernel_rfl) (by rfl) ?_ hH ?_
      rotate_left
      · intro W hW; (try dsimp only at hW); go_simp <;> with_reducible rfl
      simp only [Act.put, List.setIfInBounds_toArray, List.set_cons_zero, List.set_cons_succ]
      refine hTake (i := 4) (v := ?_) rfl (by kernel_rfl) (by kernel_rfl) (by kernel_rfl) (by rfl) ?_ hH ?_
      rotate_left
      · intro W hW; (try dsimp only at hW); go_simp <;> with_reducible rfl
      simp only [Act.put, List.setIfInBounds_toArray, List.set_cons_zero, List.set_cons_succ]
      refine hTake (i := 5) (v := ?_) rfl (by kernel_rfl) (by kernel_rfl) (by kernel_rfl) (by rfl) ?_ hH ?_
      rotate_left
      · intro W hW; (try dsimp only at hW); go_simp <;> with_reducible rfl
      simp only [Act.put, List.setIfInBounds_toArray, List.set_cons_zero, List.set_cons_succ]
      refine hTake (i := 9) (v := ?_) rfl (by kernel_rfl) (by kernel_rfl) (by kernel_rfl) (by rfl) ?_ hH ?_
      rotate_left
      · intro W hW; (try dsimp only at hW); go_simp <;> with_reducible rfl
      simp only [Act.put, List.setIfInBounds_toArray, List.set_cons_zero, List.set_cons_succ]
      refine hTake (i := 10) (v := ?_) rfl (by kernel_rfl) (by kernel_rfl) (by kernel_rfl) (by rfl) ?_ hH ?_
      rotate_left
      · intro W hW; (try dsimp only at hW); go_simp <;> with_reducible rfl
      simp only [Act.put, List.setIfInBounds_toArray, List.set_cons_zero, List.set_cons_succ]
      refine wpAnyH_ready (rs := [6]) (by kernel_rfl) (by simp) ?_
      refine AllReadyH.cons rfl (fun K hK => ?_) AllReadyH.nil
      go_simp
      refine (pack_back _ m2 c2 m1 rs ys _ (owns_cells (o2.alloc _).drew) (by omega) F2 P2 HY).mono ?_
      rintro e w3 ⟨g3, c3, rfl, y3, b3⟩
      have hcv := conv_at y3 yl c3
      replace b3 : Below (w2.alloc (.cells #[.int .i64 0, .slice a2 m2 c2] 27)).heap.size (w2.alloc (.cells #[.int .i64 0, .slice a2 m2 c2] 27)) w3 := ⟨b3.os, b3.tape, b3.output, b3.size, b3.block⟩
      have hfd := fun W => field30 0 (some ⟨g3, 0, none⟩) m1 c3 W
      go_wp2_with fail
      refine hK.out _ _ ?_ (fun hH => ?_)
      · exact HS.out _ b3
      clear hK K
      refine hTake (i := 7) (v := ?_) rfl (by kernel_rfl) (by kernel_rfl) (by kernel_rfl) (by rfl) ?_ hH ?_
      rotate_left
      · intro W hW; (try dsimp only at hW); go_simp <;> with_reducible rfl
      simp only [Act.put, List.setIfInBounds_toArray, List.set_cons_zero, List.set_cons_succ]
      refine wpAnyH_ready (rs := [8]) (by kernel_rfl) (by simp) ?_
      refine AllReadyH.cons rfl (fun K hK => ?_) AllReadyH.nil
      go_simp
      skip
      refine hK.out _ _ ?_ (fun hH => ?_)
      · exact HS.out _ b3
      clear hK K
      refine hTake (i := 11) (v := ?_) rfl (by kernel_rfl) (by kernel_rfl) (by kernel_rfl) (by rfl) ?_ hH ?_
      rotate_left
      · intro W hW; (try dsimp only at hW); go_simp <;> with_reducible rfl
      simp only [Act.put, List.setIfInBounds_toArray, List.set_cons_zero, List.set_cons_succ]
      refine hTake (i := 12) (v := ?_) rfl (by kernel_rfl) (by kernel_rfl) (by kernel_rfl) (by rfl) ?_ hH ?_
      rotate_left
      · intro W hW; (try dsimp only at hW); go_simp <;> with_reducible rfl
      simp only [Act.put, List.setIfInBounds_toArray, List.set_cons_zero, List.set_cons_succ]
      refine hTake (i := 13) (v := ?_) rfl (by kernel_rfl) (by kernel_rfl) (by kernel_rfl) (by rfl) ?_ hH ?_
      rotate_left
      · intro W hW; (try dsimp only at hW); go_simp <;> with_reducible rfl
      simp only [Act.put, List.setIfInBounds_toArray, List.set_cons_zero, List.set_cons_succ]
      refine hTake (i := 14) (v := ?_) rfl (by kernel_rfl) (by kernel_rfl) (by kernel_rfl) (by rfl) ?_ hH ?_
      rotate_left
      · intro W hW; (try dsimp only at hW); go_simp <;> with_reducible rfl
      simp only [Act.put, List.setIfInBounds_toArray, List.set_cons_zero, List.set_cons_succ]
      refine hTake (i := 15) (v := ?_) rfl (by kernel_rfl) (by kernel_rfl) (by kernel_rfl) (by rfl) ?_ hH ?_
      rotate_left
      · intro W hW; (try dsimp only at hW); go_simp <;> with_reducible rfl
      simp only [Act.put, List.setIfInBounds_toArray, List.set_cons_zero, List.set_cons_succ]
      refine hTake (i := 16) (v := ?_) rfl (by kernel_rfl) (by kernel_rfl) (by kernel_rfl) (by rfl) ?_ hH ?_
      rotate_left
      · intro W hW; (try dsimp only at hW); go_simp <;> with_reducible rfl
      simp only [Act.put, List.setIfInBounds_toArray, List.set_cons_zero, List.set_cons_succ]
      refine hTake (i := 17) (v := ?_) rfl (by kernel_rfl) (by kernel_rfl) (by kernel_rfl) (by rfl) ?_ hH ?_
      rotate_left
      · intro W hW; (try dsimp only at hW); go_simp <;> with_reducible rfl
      simp only [Act.put, List.setIfInBounds_toArray, List.set_cons_zero, List.set_cons_succ]
      refine hSkip (i := 18) rfl (by kernel_rfl) (by kernel_rfl) (by kernel_rfl) (by rfl) hH ?_
      simp only [Act.put, List.setIfInBounds_toArray, List.set_cons_zero, List.set_cons_succ]
      refine hSkip (i := 19) rfl (by kernel_rfl) (by kernel_rfl) (by kernel_rfl) (by rfl) hH ?_
      simp only [Act.put, List.setIfInBounds_toArray, List.set_cons_zero, List.set_cons_succ]
      refine hSkip (i := 20) rfl (by kernel_rfl) (by kernel_rfl) (by kernel_rfl) (by rfl) hH ?_
      simp only [Act.put, List.setIfInBounds_toArray, List.set_cons_zero, List.set_cons_succ]
      refine hSkip (i := 21) rfl (by kernel_rfl) (by kernel_rfl) (by kernel_rfl) (by rfl) hH ?_
      simp only [Act.put, List.setIfInBounds_toArray, List.set_cons_zero, List.set_cons_succ]
      refine hSkip (i := 22) rfl (by kernel_rfl) (by kernel_rfl) (by kernel_rfl) (by rfl) hH ?_
      simp only [Act.put, List.setIfInBounds_toArray, List.set_cons_zero, List.set_cons_succ]
      refine hSkip (i := 23) rfl (by kernel_rfl) (by kernel_rfl) (by kernel_rfl) (by rfl) hH ?_
      simp only [Act.put, List.setIfInBounds_toArray, List.set_cons_zero, List.set_cons_succ]
      refine hTake (i := 24) (v := ?_) rfl (by kernel_rfl) (by kernel_rfl) (by kernel_rfl) (by rfl) ?_ hH ?_
      rotate_left
      · intro W hW; (try dsimp only at hW); go_simp <;> with_reducible rfl
      simp only [Act.put, List.setIfInBounds_toArray, List.set_cons_zero, List.set_cons_succ]
      refine hTake (i := 25) (v := ?_) rfl (by kernel_rfl) (by kernel_rfl) (by kernel_rfl) (by rfl) ?_ hH ?_
      rotate_left
      · intro W hW; (try dsimp only at hW); go_simp <;> with_reducible rfl
      simp only [Act.put, List.setIfInBounds_toArray, List.set_cons_zero, List.set_cons_succ]
      refine wpAnyH_done (by kernel_rfl) ?_ _
      refine NoPanic.normal ?_
      have bR : Below w.heap.size w w3 := b2'.trans ((below_box b3).mono z2)
      clear b3 hfd hcv hH HS y3 b2' z2 o2 y2 F2 P2 HY hys hyb
      go_wp2_with fail
    rotate_left
    focus
      obtain ⟨c, hcq⟩ : ∃ c, c = (Ch.unp ys).1 := ⟨_, rfl⟩
      rw [← hcq] at h0 ⊢
      have C : Hid (c = (Ch.unp ys).1) := hcq
      clear hcq
      have hc0 : (c == 0) = false := by rw [beq_eq_false_iff_ne]; exact h0
      have hc1' : (c != 0) = true := by rw [bne_iff_ne]; exact h0
      have hc2 : (c != c) = false := by simp
      clear o2 h0
      go_wp2_with fail
      have HS : Hid (∀ W', Below (w2.alloc (.cells #[.int .i64 c, .slice a2 m2 c2] 27)).heap.size (w2.alloc (.cells #[.int .i64 c, .slice a2 m2 c2] 27)) W' → W'.cell? ⟨w2.heap.size, 0, none⟩ = some (.int .i64 c)) := fun W' hb => by simpa using box_cell hb 0
      refine wp_region_noPanic ?_
      refine wp_region_held_drew (S := (fun W' => W'.cell? ⟨w2.heap.size, 0, none⟩ = some (.int .i64 c))) (by kernel_rfl) (HS.out _ (Below.refl _ _).drew) (fun hH => ?_)
      refine hTake (i := 0) (v := ?_) rfl (by kernel_rfl) (by kernel_rfl) (by kernel_rfl) (by rfl) ?_ hH ?_
      rotate_left
      · intro W hW; (try dsimp only at hW); go_simp <;> with_reducible rfl
      simp only [Act.put, List.setIfInBounds_toArray, List.set_cons_zero, List.set_cons_succ]
      refine hTake (i := 1) (v := ?_) rfl (by kernel_rfl) (by kernel_rfl) (by kernel_rfl) (by rfl) ?_ hH ?_
      rotate_left
      · intro W hW; (try dsimp only at hW); go_simp <;> with_reducible rfl
      simp only [Act.put, List.setIfInBounds_toArray, List.set_cons_zero, List.set_cons_succ]
      refine hTake (i := 2) (v := ?_) rfl (by kernel_rfl) (by kernel_rfl) (by kernel_rfl) (by rfl) ?_ hH ?_
      rotate_left
      · intro W hW; (try dsimp only at hW); go_simp <;> with_reducible rfl
      simp only [Act.put, List.setIfInBounds_toArray, List.set_cons_zero, List.set_cons_succ]
      refine hTake (i := 3) (v := ?_) rfl (by kernel_rfl) (by kernel_rfl) (by kernel_rfl) (by rfl) ?_ hH ?_
      rotate_left
      · intro W hW; (try dsimp only at hW); go_simp <;> with_reducible rfl
      simp only [Act.put, List.setIfInBounds_toArray, List.set_cons_zero, List.set_cons_succ]
      refine hSkip (i := 4) rfl (by kernel_rfl) (by kernel_rfl) (by kernel_rfl) (by rfl) hH ?_
      simp only [Act.put, List.setIfInBounds_toArray, List.set_cons_zero, List.set_cons_succ]
      refine hSkip (i := 5) rfl (by kernel_rfl) (by kernel_rfl) (by kernel_rfl) (by rfl) hH ?_
      simp only [Act.put, List.setIfInBounds_toArray, List.set_cons_zero, List.set_cons_succ]
      refine hSkip (i := 6) rfl (by kernel_rfl) (by kernel_rfl) (by kernel_rfl) (by rfl) hH ?_
      simp only [Act.put, List.setIfInBounds_toArray, List.set_cons_zero, List.set_cons_succ]
      refine hSkip (i := 7) rfl (by kernel_rfl) (by kernel_rfl) (by kernel_rfl) (by rfl) hH ?_
      simp only [Act.put, List.setIfInBounds_toArray, List.set_cons_zero, List.set_cons_succ]
      refine hSkip (i := 8) rfl (by kernel_rfl) (by kernel_rfl) (by kernel_rfl) (by rfl) hH ?_
      simp only [Act.put, List.setIfInBounds_toArray, List.set_cons_zero, List.set_cons_succ]
      refine hSkip (i := 9) rfl (by kernel_rfl) (by kernel_rfl) (by kernel_rfl) (by rfl) hH ?_
      simp only [Act.put, List.setIfInBounds_toArray, List.set_cons_zero, List.set_cons_succ]
      refine hSkip (i := 10) rfl (by kernel_rfl) (by kernel_rfl) (by kernel_rfl) (by rfl) hH ?_
      simp only [Act.put, List.setIfInBounds_toArray, List.set_cons_zero, List.set_cons_succ]
      refine hSkip (i := 11) rfl (by kernel_rfl) (by kernel_rfl) (by kernel_rfl) (by rfl) hH ?_
      simp only [Act.put, List.setIfInBounds_toArray, List.set_cons_zero, List.set_cons_succ]
      refine hTake (i := 12) (v := ?_) rfl (by kernel_rfl) (by kernel_rfl) (by kernel_rfl) (by rfl) ?_ hH ?_
      rotate_left
      · intro W hW; (try dsimp only at hW); go_simp <;> with_reducible rfl
      simp only [Act.put, List.setIfInBounds_toArray, List.set_cons_zero, List.set_cons_succ]
      refine hTake (i := 13) (v := ?_) rfl (by kernel_rfl) (by kernel_rfl) (by kernel_rfl) (by rfl) ?_ hH ?_
      rotate_left
      · intro W hW; (try dsimp only at hW); go_simp <;> with_reducible rfl
      simp only [Act.put, List.setIfInBounds_toArray, List.set_cons_zero, List.set_cons_succ]
      refine hTake (i := 14) (v := ?_) rfl (by kernel_rfl) (by kernel_rfl) (by kernel_rfl) (by rfl) ?_ hH ?_
      rotate_left
      · intro W hW; (try dsimp only at hW); go_simp <;> with_reducible rfl
      simp only [Act.put, List.setIfInBounds_toArray, List.set_cons_zero, List.set_cons_succ]
      refine hTake (i := 15) (v := ?_) rfl (by kernel_rfl) (by kernel_rfl) (by kernel_rfl) (by rfl) ?_ hH ?_
      rotate_left
      · intro W hW; (try dsimp only at hW); go_simp <;> with_reducible rfl
      simp only [Act.put, List.setIfInBounds_toArray, List.set_cons_zero, List.set_cons_succ]
      refine hTake (i := 16) (v := ?_) rfl (by kernel_rfl) (by kernel_rfl) (by kernel_rfl) (by rfl) ?_ hH ?_
      rotate_left
      · intro W hW; (try dsimp only at hW); go_simp <;> with_reducible rfl
      simp only [Act.put, List.setIfInBounds_toArray, List.set_cons_zero, List.set_cons_succ]
      refine hTake (i := 17) (v := ?_) rfl (by kernel_rfl) (by kernel_rfl) (by kernel_rfl) (by rfl) ?_ hH ?_
      rotate_left
      · intro W hW; (try dsimp only at hW); go_simp <;> with_reducible rfl
      simp only [Act.put, List.setIfInBounds_toArray, List.set_cons_zero, List.set_cons_succ]
      refine hTake (i := 18) (v := ?_) rfl (by kernel_rfl) (by kernel_rfl) (by kernel_rfl) (by rfl) ?_ hH ?_
      rotate_left
      · intro W hW; (try dsimp only at hW); go_simp <;> with_reducible rfl
      simp only [Act.put, List.setIfInBounds_toArray, List.set_cons_zero, List.set_cons_succ]
      refine hTake (i := 21) (v := ?_) rfl (by kernel_rfl) (by kernel_rfl) (by kernel_rfl) (by rfl) ?_ hH ?_
      rotate_left
      · intro W hW; (try dsimp only at hW); go_simp <;> with_reducible rfl
      simp only [Act.put, List.setIfInBounds_toArray, List.set_cons_zero, List.set_cons_succ]
      refine hTake (i := 22) (v := ?_) rfl (by kernel_rfl) (by kernel_rfl) (by kernel_rfl) (by rfl) ?_ hH ?_
      rotate_left
      · intro W hW; (try dsimp only at hW); go_simp <;> with_reducible rfl
      simp only [Act.put, List.setIfInBounds_toArray, List.set_cons_zero, List.set_cons_succ]
      refine wpAnyH_ready (rs := [19]) (by kernel_rfl) (by simp) ?_
      refine AllReadyH.cons rfl (fun K hK => ?_) AllReadyH.nil
      go_simp
      refine (unp_code _ m1 c1 ys c _ (y2.below ((Below.refl _ _).alloc (Nat.le_refl _) _).drew) hyb (by omega) hc1 C).mono ?_
      rintro e w3 ⟨a3, m3, c3, rfl, b3⟩
      replace b3 : Below (w2.alloc (.cells #[.int .i64 c, .slice a2 m2 c2] 27)).heap.size (w2.alloc (.cells #[.int .i64 c, .slice a2 m2 c2] 27)) w3 := ⟨b3.os, b3.tape, b3.output, b3.size, b3.block⟩
      have hfd := fun W => field27 c a3 m3 c3 W
      go_wp2_with fail
      refine hK.out _ _ ?_ (fun hH => ?_)
      · exact HS.out _ b3
      clear hK K
      refine hTake (i := 20) (v := ?_) rfl (by kernel_rfl) (by kernel_rfl) (by kernel_rfl) (by rfl) ?_ hH ?_
      rotate_left
      · intro W hW; (try dsimp only at hW); go_simp <;> with_reducible rfl
      simp only [Act.put, List.setIfInBounds_toArray, List.set_cons_zero, List.set_cons_succ]
      refine hTake (i := 23) (v := ?_) rfl (by kernel_rfl) (by kernel_rfl) (by kernel_rfl) (by rfl) ?_ hH ?_
      rotate_left
      · intro W hW; (try dsimp only at hW); go_simp <;> with_reducible rfl
      simp only [Act.put, List.setIfInBounds_toArray, List.set_cons_zero, List.set_cons_succ]
      refine hTake (i := 24) (v := ?_) rfl (by kernel_rfl) (by kernel_rfl) (by kernel_rfl) (by rfl) ?_ hH ?_
      rotate_left
      · intro W hW; (try dsimp only at hW); go_simp <;> with_reducible rfl
      simp only [Act.put, List.setIfInBounds_toArray, List.set_cons_zero, List.set_cons_succ]
      refine hTake (i := 25) (v := ?_) rfl (by kernel_rfl) (by kernel_rfl) (by kernel_rfl) (by rfl) ?_ hH ?_
      rotate_left
      · intro W hW; (try dsimp only at hW); go_simp <;> with_reducible rfl
      simp only [Act.put, List.setIfInBounds_toArray, List.set_cons_zero, List.set_cons_succ]
      refine wpAnyH_done (by kernel_rfl) ?_ _
      refine NoPanic.normal ?_
      have bR : Below w.heap.size w w3 := b2'.trans ((below_box b3).mono z2)
      clear b3 hfd hH HS b2' z2 y2 HY hys hyb C hc0 hc1' hc2
      go_wp2_with fail
    rotate_left
    all_goals
      refine (drawPack_any a n cap zs _ (h.below bR) hb hsm).mono ?_
      rintro e w6 ⟨⟨g6, m6, c6, rfl, hm6, rs6, r6⟩, b6⟩
      have bR6 := bR.trans (b6.mono bR.size)
      clear bR b6
      go_wp2_with fail
      rcases Decidable.em (Ch.pageFault rs6 = 0) with hF | hF
      · refine (implPack_ok _ m6 c6 rs6 _ r6 (by omega) hF).mono ?_
        rintro e w7 ⟨g7, c7, rfl, o7, b7⟩
        have L6 := r6.rlen
        have h4 : m6 ≤ 4 := by have := (Ch.allFit_of_page hF).2; have := L6.out; omega
        have hcap7 : 3 + 4 * m6 ≤ c7 := (show OwnB w7 w6.heap.size g7 (3 + 4 * m6) c7 from ⟨_, Ch.allB_page hF, o7⟩).cap
        have bR7 := bR6.trans (b7.mono bR6.size)
        have r7 := r6.below b7
        have y7 := owns_bytes o7
        have HF : Hid (Ch.pageFault rs6 = 0) := hF
        clear hF o7 b7 r6 bR6
        go_wp2_with fail
        refine (unp_back g7 m6 c7 _ rs6 _ (y7.below ((Below.refl _ _).alloc (Nat.le_refl _) _)) rfl L6.out hcap7 h4 HF.out).mono ?_
        rintro e w8 ⟨a8, c8, rfl, o8, b8⟩
        have p0 := box_cell b8 0
        have p1 := box_cell b8 1
        simp at p0 p1
        have bb8 := below_box b8
        have bR8 := bR7.trans (bb8.mono bR7.size)
        have r8 := r7.below bb8
        have y8 := y7.below bb8
        have q8 := owns_cells o8
        have z8 := b8.size
        simp at z8
        clear b8 bb8 bR7 r7 y7 o8
        go_wp2_with fail
        go_loopw [8] (fun i wr => ∃ k : Nat, k ≤ m6 ∧ i = .int .i64 k ∧ Below (w8.alloc (.cells #[.int .i64 0, .slice a8 m6 c8] 27)).heap.size (w8.alloc (.cells #[.int .i64 0, .slice a8 m6 c8] 27)) wr) (fun i _ => m6 - (intOf i).toNat)
        case atStart => exact ⟨0, Nat.zero_le _, rfl, Below.refl _ _⟩
        case round =>
          obtain ⟨k, hk, rfl, hB⟩ := hrel
          by_cases hlt : k < m6
          · obtain ⟨b, off, hbo, d0, d1, d2⟩ := (r8.below (below_box hB)).row hlt
            simp only [Option.some.injEq, Addr.mk.injEq, and_true] at hbo
            obtain ⟨rfl, rfl⟩ := hbo
            have HR : Hid (Ch.rowFault (rs6.getD k Ch.Row.zero).k (rs6.getD k Ch.Row.zero).v (rs6.getD k Ch.Row.zero).g = 0) := Ch.row_fault HF.out (by have := L6.out; omega)
            generalize rs6.getD k Ch.Row.zero = r at *
            obtain ⟨rk, rv, rg⟩ := r
            simp only [Nat.zero_add] at d0 d1 d2
            simp only at HR
            go_wp2_with fail
            refine (implRow_any rk rv rg _).mono ?_
            rintro e w9 ⟨rfl, b9⟩
            rw [HR.out]
            go_wp2
            go_roundw
            case rel => exact ⟨k + 1, by omega, by go_num, hB.trans (b9.mono hB.size)⟩
            case measure => simp [intOf]; omega
          · obtain rfl : k = m6 := by omega
            go_wp2_with fail
            have bw8 := below_box hB
            have HS : Hid (∀ W', Below wr.heap.size wr W' → W'.cell? ⟨w8.heap.size, 0, none⟩ = some (.int .i64 0) ∧ W'.cell? ⟨w8.heap.size, 1, none⟩ = some (.slice a8 k c8) ∧ W'.cell? ⟨w7.heap.size, 1, none⟩ = some (.slice (some ⟨g7, 0, none⟩) (3 + 4 * k) c7)) := by
              intro W' hb'
              have x0 := box_cell hB 0
              have x1 := box_cell hB 1
              simp at x0 x1
              exact ⟨keep_cell hb' x0, keep_cell hb' x1, keep_cell hb' (keep_cell bw8 p1)⟩
            have hw1 : IntKind.i64.wrap (4 * (k : Int)) = 4 * k := IntWalk.i64_in _ ⟨by omega, by omega⟩
            have hw2 : IntKind.i64.wrap (3 + 4 * (k : Int)) = 3 + 4 * k := IntWalk.i64_in _ ⟨by omega, by omega⟩
            have zB := isB_of (Ch.allB_page HF.out)
            have q9 := q8.below bw8
            have r9 := r8.below bw8
            have y9 := y8.below bw8
            have bE := bR8.trans (bw8.mono bR8.size)
            clear q8 r8 y8 bR8 hB p0 p1
            refine wp_region_noPanic ?_
            refine wp_region_held_drew (S := fun W' => W'.cell? ⟨w8.heap.size, 0, none⟩ = some (.int .i64 0) ∧ W'.cell? ⟨w8.heap.size, 1, none⟩ = some (.slice a8 k c8) ∧ W'.cell? ⟨w7.heap.size, 1, none⟩ = some (.slice (some ⟨g7, 0, none⟩) (3 + 4 * k) c7)) (by kernel_rfl) (HS.out _ (Below.refl _ _).drew) (fun hH => ?_)
            refine hTake (i := 0) (v := ?_) rfl (by kernel_rfl) (by kernel_rfl) (by kernel_rfl) (by rfl) ?_ hH ?_
            rotate_left
            · intro W hW; (try dsimp only at hW); go_simp <;> with_reducible rfl
            simp only [Act.put, List.setIfInBounds_toArray, List.set_cons_zero, List.set_cons_succ]
            refine hTake (i := 1) (v := ?_) rfl (by kernel_rfl) (by kernel_rfl) (by kernel_rfl) (by rfl) ?_ hH ?_
            rotate_left
            · intro W hW; (try dsimp only at hW); go_simp <;> with_reducible rfl
            simp only [Act.put, List.setIfInBounds_toArray, List.set_cons_zero, List.set_cons_succ]
            refine hTake (i := 2) (v := ?_) rfl (by kernel_rfl) (by kernel_rfl) (by kernel_rfl) (by rfl) ?_ hH ?_
            rotate_left
            · intro W hW; (try dsimp only at hW); go_simp <;> with_reducible rfl
            simp only [Act.put, List.setIfInBounds_toArray, List.set_cons_zero, List.set_cons_succ]
            refine hTake (i := 3) (v := ?_) rfl (by kernel_rfl) (by kernel_rfl) (by kernel_rfl) (by rfl) ?_ hH ?_
            rotate_left
            · intro W hW; (try dsimp only at hW); go_simp <;> with_reducible rfl
            simp only [Act.put, List.setIfInBounds_toArray, List.set_cons_zero, List.set_cons_succ]
            refine hTake (i := 4) (v := ?_) rfl (by kernel_rfl) (by kernel_rfl) (by kernel_rfl) (by rfl) ?_ hH ?_
            rotate_left
            · intro W hW; (try dsimp only at hW); go_simp <;> with_reducible rfl
            simp only [Act.put, List.setIfInBounds_toArray, List.set_cons_zero, List.set_cons_succ]
            refine hTake (i := 5) (v := ?_) rfl (by kernel_rfl) (by kernel_rfl) (by kernel_rfl) (by rfl) ?_ hH ?_
            rotate_left
            · intro W hW; (try dsimp only at hW); go_simp <;> with_reducible rfl
            simp only [Act.put, List.setIfInBounds_toArray, List.set_cons_zero, List.set_cons_succ]
            refine hTake (i := 6) (v := ?_) rfl (by kernel_rfl) (by kernel_rfl) (by kernel_rfl) (by rfl) ?_ hH ?_
            rotate_left
            · intro W hW; (try dsimp only at hW); go_simp <;> with_reducible rfl
            simp only [Act.put, List.setIfInBounds_toArray, List.set_cons_zero, List.set_cons_succ]
            refine wpAnyH_ready (rs := [7]) (by kernel_rfl) (by simp) ?_
            refine AllReadyH.cons rfl (fun K hK => ?_) AllReadyH.nil
            go_simp
            refine (lwRows_same _ _ k c8 c6 rs6 _ (q9.below (Below.refl _ _).drew) (r9.below (Below.refl _ _).drew) (by omega)).mono ?_
            rintro e w10 ⟨rfl, b10⟩
            replace b10 : Below wr.heap.size wr w10 := ⟨b10.os, b10.tape, b10.output, b10.size, b10.block⟩
            go_wp2_with fail
            refine hK.out _ _ ?_ (fun hH => ?_)
            · exact HS.out _ b10
            clear hK K
            refine hTake (i := 8) (v := ?_) rfl (by kernel_rfl) (by kernel_rfl) (by kernel_rfl) (by rfl) ?_ hH ?_
            rotate_left
            · intro W hW; (try dsimp only at hW); go_simp <;> with_reducible rfl
            simp only [Act.put, List.setIfInBounds_toArray, List.set_cons_zero, List.set_cons_succ]
            refine hTake (i := 9) (v := ?_) rfl (by kernel_rfl) (by kernel_rfl) (by kernel_rfl) (by rfl) ?_ hH ?_
            rotate_left
            · intro W hW; (try dsimp only at hW); go_simp <;> with_reducible rfl
            simp only [Act.put, List.setIfInBounds_toArray, List.set_cons_zero, List.set_cons_succ]
            refine hTake (i := 10) (v := ?_) rfl (by kernel_rfl) (by kernel_rfl) (by kernel_rfl) (by rfl) ?_ hH ?_
            rotate_left
            · intro W hW; (try dsimp only at hW); go_simp <;> with_reducible rfl
            simp only [Act.put, List.setIfInBounds_toArray, List.set_cons_zero, List.set_cons_succ]
            refine hTake (i := 11) (v := ?_) rfl (by kernel_rfl) (by kernel_rfl) (by kernel_rfl) (by rfl) ?_ hH ?_
            rotate_left
            · intro W hW; (try dsimp only at hW); go_simp <;> with_reducible rfl
            simp only [Act.put, List.setIfInBounds_toArray, List.set_cons_zero, List.set_cons_succ]
            refine hTake (i := 12) (v := ?_) rfl (by kernel_rfl) (by kernel_rfl) (by kernel_rfl) (by rfl) ?_ hH ?_
            rotate_left
            · intro W hW; (try dsimp only at hW); go_simp <;> with_reducible rfl
            simp only [Act.put, List.setIfInBounds_toArray, List.set_cons_zero, List.set_cons_succ]
            refine hTake (i := 13) (v := ?_) rfl (by kernel_rfl) (by kernel_rfl) (by kernel_rfl) (by rfl) ?_ hH ?_
            rotate_left
            · intro W hW; (try dsimp only at hW); go_simp <;> with_reducible rfl
            simp only [Act.put, List.setIfInBounds_toArray, List.set_cons_zero, List.set_cons_succ]
            refine hTake (i := 14) (v := ?_) rfl (by kernel_rfl) (by kernel_rfl) (by kernel_rfl) (by rfl) ?_ hH ?_
            rotate_left
            · intro W hW; (try dsimp only at hW); go_simp <;> with_reducible rfl
            simp only [Act.put, List.setIfInBounds_toArray, List.set_cons_zero, List.set_cons_succ]
            refine hTake (i := 15) (v := ?_) rfl (by kernel_rfl) (by kernel_rfl) (by kernel_rfl) (by rfl) ?_ hH ?_
            rotate_left
            · intro W hW; (try dsimp only at hW); go_simp <;> with_reducible rfl
            simp only [Act.put, List.setIfInBounds_toArray, List.set_cons_zero, List.set_cons_succ]
            refine hTake (i := 16) (v := ?_) rfl (by kernel_rfl) (by kernel_rfl) (by kernel_rfl) (by rfl) ?_ hH ?_
            rotate_left
            · intro W hW; (try dsimp only at hW); go_simp <;> with_reducible rfl
            simp only [Act.put, List.setIfInBounds_toArray, List.set_cons_zero, List.set_cons_succ]
            refine hTake (i := 17) (v := ?_) rfl (by kernel_rfl) (by kernel_rfl) (by kernel_rfl) (by rfl) ?_ hH ?_
            rotate_left
            · intro W hW; (try dsimp only at hW); go_simp <;> with_reducible rfl
            simp only [Act.put, List.setIfInBounds_toArray, List.set_cons_zero, List.set_cons_succ]
            refine hTake (i := 18) (v := ?_) rfl (by kernel_rfl) (by kernel_rfl) (by kernel_rfl) (by rfl) ?_ hH ?_
            rotate_left
            · intro W hW; (try dsimp only at hW); go_simp <;> with_reducible rfl
            simp only [Act.put, List.setIfInBounds_toArray, List.set_cons_zero, List.set_cons_succ]
            refine hTake (i := 19) (v := ?_) rfl (by kernel_rfl) (by kernel_rfl) (by kernel_rfl) (by rfl) ?_ hH ?_
            rotate_left
            · intro W hW; (try dsimp only at hW); go_simp <;> with_reducible rfl
            simp only [Act.put, List.setIfInBounds_toArray, List.set_cons_zero, List.set_cons_succ]
            refine hTake (i := 20) (v := ?_) rfl (by kernel_rfl) (by kernel_rfl) (by kernel_rfl) (by rfl) ?_ hH ?_
            rotate_left
            · intro W hW; (try dsimp only at hW); go_simp <;> with_reducible rfl
            simp only [Act.put, List.setIfInBounds_toArray, List.set_cons_zero, List.set_cons_succ]
            refine hTake (i := 21) (v := ?_) rfl (by kernel_rfl) (by kernel_rfl) (by kernel_rfl) (by rfl) ?_ hH ?_
            rotate_left
            · intro W hW; (try dsimp only at hW); go_simp <;> with_reducible rfl
            simp only [Act.put, List.setIfInBounds_toArray, List.set_cons_zero, List.set_cons_succ]
            refine hTake (i := 23) (v := ?_) rfl (by kernel_rfl) (by kernel_rfl) (by kernel_rfl) (by rfl) ?_ hH ?_
            rotate_left
            · intro W hW; (try dsimp only at hW); go_simp <;> with_reducible rfl
            simp only [Act.put, List.setIfInBounds_toArray, List.set_cons_zero, List.set_cons_succ]
            refine hTake (i := 24) (v := ?_) rfl (by kernel_rfl) (by kernel_rfl) (by kernel_rfl) (by rfl) ?_ hH ?_
            rotate_left
            · intro W hW; (try dsimp only at hW); go_simp <;> with_reducible rfl
            simp only [Act.put, List.setIfInBounds_toArray, List.set_cons_zero, List.set_cons_succ]
            refine wpAnyH_ready (rs := [22]) (by kernel_rfl) (by simp) ?_
            refine AllReadyH.cons rfl (fun K hK => ?_) AllReadyH.nil
            go_simp
            refine (implSum_any _ _ c7 (Ch.pageB rs6) _ (y9.below b10) zB (by omega)).mono ?_
            rintro e w11 ⟨rfl, rfl⟩
            go_wp2_with fail
            refine hK.out _ _ ?_ (fun hH => ?_)
            · exact HS.out _ b10
            clear hK K
            refine wpAnyH_ready (rs := [25]) (by kernel_rfl) (by simp) ?_
            refine AllReadyH.cons rfl (fun K hK => ?_) AllReadyH.nil
            go_simp
            refine (specSum_any _ _ c7 (Ch.pageB rs6) _ (y9.below b10) zB (by omega)).mono ?_
            rintro e w12 ⟨rfl, rfl⟩
            go_wp2_with fail
            refine hK.out _ _ ?_ (fun hH => ?_)
            · exact HS.out _ b10
            clear hK K
            refine hTake (i := 26) (v := ?_) rfl (by kernel_rfl) (by kernel_rfl) (by kernel_rfl) (by rfl) ?_ hH ?_
            rotate_left
            · intro W hW; (try dsimp only at hW); go_simp <;> with_reducible rfl
            simp only [Act.put, List.setIfInBounds_toArray, List.set_cons_zero, List.set_cons_succ]
            refine hTake (i := 27) (v := ?_) rfl (by kernel_rfl) (by kernel_rfl) (by kernel_rfl) (by rfl) ?_ hH ?_
            rotate_left
            · intro W hW; (try dsimp only at hW); go_simp <;> with_reducible rfl
            simp only [Act.put, List.setIfInBounds_toArray, List.set_cons_zero, List.set_cons_succ]
            refine hTake (i := 28) (v := ?_) rfl (by kernel_rfl) (by kernel_rfl) (by kernel_rfl) (by rfl) ?_ hH ?_
            rotate_left
            · intro W hW; (try dsimp only at hW); go_simp <;> with_reducible rfl
            simp only [Act.put, List.setIfInBounds_toArray, List.set_cons_zero, List.set_cons_succ]
            refine wpAnyH_done (by kernel_rfl) ?_ _
            refine NoPanic.normal ?_
            have bF := bE.trans (b10.mono bE.size)
            clear hH HS b10
            go_wp2
            go_ret
            exact ⟨rfl, bF⟩
      · obtain ⟨c, hcq⟩ : ∃ c, c = Ch.pageFault rs6 := ⟨_, rfl⟩
        rw [← hcq] at hF
        have hc1' : (c != 0) = true := by rw [bne_iff_ne]; exact hF
        refine (implPack_no _ m6 c6 rs6 _ r6 (by omega) c hcq.symm hc1').mono ?_
        rintro e w7 ⟨rfl, b7⟩
        have CQ : Hid (c = Ch.pageFault rs6) := hcq
        have hcc : (c == c) = true := by simp
        have r7 := r6.below b7
        have bR7 := bR6.trans (b7.mono bR6.size)
        clear hcq hF r6 b7 bR6
        go_wp2_with fail
        have HS : Hid (∀ W', Below (w7.alloc (.cells #[.int .i64 c, .slice none 0 0] 30)).heap.size (w7.alloc (.cells #[.int .i64 c, .slice none 0 0] 30)) W' → W'.cell? ⟨w7.heap.size, 0, none⟩ = some (.int .i64 c)) := fun W' hb => by simpa using box_cell hb 0
        refine wp_region_noPanic ?_
        refine wp_region_held_drew (S := fun W' => W'.cell? ⟨w7.heap.size, 0, none⟩ = some (.int .i64 c)) (by kernel_rfl) (HS.out _ (Below.refl _ _).drew) (fun hH => ?_)
        refine hTake (i := 0) (v := ?_) rfl (by kernel_rfl) (by kernel_rfl) (by kernel_rfl) (by rfl) ?_ hH ?_
        rotate_left
        · intro W hW; (try dsimp only at hW); go_simp <;> with_reducible rfl
        simp only [Act.put, List.setIfInBounds_toArray, List.set_cons_zero, List.set_cons_succ]
        refine hTake (i := 2) (v := ?_) rfl (by kernel_rfl) (by kernel_rfl) (by kernel_rfl) (by rfl) ?_ hH ?_
        rotate_left
        · intro W hW; (try dsimp only at hW); go_simp <;> with_reducible rfl
        simp only [Act.put, List.setIfInBounds_toArray, List.set_cons_zero, List.set_cons_succ]
        refine hTake (i := 3) (v := ?_) rfl (by kernel_rfl) (by kernel_rfl) (by kernel_rfl) (by rfl) ?_ hH ?_
        rotate_left
        · intro W hW; (try dsimp only at hW); go_simp <;> with_reducible rfl
        simp only [Act.put, List.setIfInBounds_toArray, List.set_cons_zero, List.set_cons_succ]
        refine wpAnyH_ready (rs := [1]) (by kernel_rfl) (by simp) ?_
        refine AllReadyH.cons rfl (fun K hK => ?_) AllReadyH.nil
        go_simp
        refine (specPage_c _ m6 c6 rs6 c _ (r7.below ((Below.refl _ _).alloc (Nat.le_refl _) _).drew) (by omega) CQ).mono ?_
        rintro e w9 ⟨rfl, b9⟩
        replace b9 : Below (w7.alloc (.cells #[.int .i64 c, .slice none 0 0] 30)).heap.size (w7.alloc (.cells #[.int .i64 c, .slice none 0 0] 30)) w9 := ⟨b9.os, b9.tape, b9.output, b9.size, b9.block⟩
        go_wp2_with fail
        refine hK.out _ _ ?_ (fun hH => ?_)
        · exact HS.out _ b9
        clear hK K
        refine hTake (i := 4) (v := ?_) rfl (by kernel_rfl) (by kernel_rfl) (by kernel_rfl) (by rfl) ?_ hH ?_
        rotate_left
        · intro W hW; (try dsimp only at hW); go_simp <;> with_reducible rfl
        simp only [Act.put, List.setIfInBounds_toArray, List.set_cons_zero, List.set_cons_succ]
        refine hTake (i := 5) (v := ?_) rfl (by kernel_rfl) (by kernel_rfl) (by kernel_rfl) (by rfl) ?_ hH ?_
        rotate_left
        · intro W hW; (try dsimp only at hW); go_simp <;> with_reducible rfl
        simp only [Act.put, List.setIfInBounds_toArray, List.set_cons_zero, List.set_cons_succ]
        refine hTake (i := 6) (v := ?_) rfl (by kernel_rfl) (by kernel_rfl) (by kernel_rfl) (by rfl) ?_ hH ?_
        rotate_left
        · intro W hW; (try dsimp only at hW); go_simp <;> with_reducible rfl
        simp only [Act.put, List.setIfInBounds_toArray, List.set_cons_zero, List.set_cons_succ]
        refine hTake (i := 8) (v := ?_) rfl (by kernel_rfl) (by kernel_rfl) (by kernel_rfl) (by rfl) ?_ hH ?_
        rotate_left
        · intro W hW; (try dsimp only at hW); go_simp <;> with_reducible rfl
        simp only [Act.put, List.setIfInBounds_toArray, List.set_cons_zero, List.set_cons_succ]
        refine hTake (i := 9) (v := ?_) rfl (by kernel_rfl) (by kernel_rfl) (by kernel_rfl) (by rfl) ?_ hH ?_
        rotate_left
        · intro W hW; (try dsimp only at hW); go_simp <;> with_reducible rfl
        simp only [Act.put, List.setIfInBounds_toArray, List.set_cons_zero, List.set_cons_succ]
        refine wpAnyH_ready (rs := [7]) (by kernel_rfl) (by simp) ?_
        refine AllReadyH.cons rfl (fun K hK => ?_) AllReadyH.nil
        go_simp
        refine (implPage_c _ m6 c6 rs6 c _ (r7.below (below_box b9)) (by omega) CQ).mono ?_
        rintro e w10 ⟨rfl, b10⟩
        replace b10 := b9.trans (b10.mono b9.size)
        go_wp2_with fail
        refine hK.out _ _ ?_ (fun hH => ?_)
        · exact HS.out _ b10
        clear hK K
        refine hTake (i := 10) (v := ?_) rfl (by kernel_rfl) (by kernel_rfl) (by kernel_rfl) (by rfl) ?_ hH ?_
        rotate_left
        · intro W hW; (try dsimp only at hW); go_simp <;> with_reducible rfl
        simp only [Act.put, List.setIfInBounds_toArray, List.set_cons_zero, List.set_cons_succ]
        refine hTake (i := 11) (v := ?_) rfl (by kernel_rfl) (by kernel_rfl) (by kernel_rfl) (by rfl) ?_ hH ?_
        rotate_left
        · intro W hW; (try dsimp only at hW); go_simp <;> with_reducible rfl
        simp only [Act.put, List.setIfInBounds_toArray, List.set_cons_zero, List.set_cons_succ]
        refine hTake (i := 12) (v := ?_) rfl (by kernel_rfl) (by kernel_rfl) (by kernel_rfl) (by rfl) ?_ hH ?_
        rotate_left
        · intro W hW; (try dsimp only at hW); go_simp <;> with_reducible rfl
        simp only [Act.put, List.setIfInBounds_toArray, List.set_cons_zero, List.set_cons_succ]
        refine wpAnyH_done (by kernel_rfl) ?_ _
        refine NoPanic.normal ?_
        have bF := bR7.trans ((below_box b10).mono bR7.size)
        clear hH HS b9 b10
        go_wp2
        go_ret
        exact ⟨rfl, bF⟩
end Go.Proofs.Ythkbaabfhbjbgaa
