/- The draw of a log. -/
import Derived.Test.YtommekhmdmnjlaaLogB
import Derived.Test.YtommekhmdmnjlaaDrawF
namespace Go.Proofs.Ytommekhmdmnjlaa
open Go.RowKit

/-- Two lists of bytes of one's own that share no memory. -/
structure TwoB (w : World) (B : Nat) (aS : Option Addr) (nS cS : Nat) (ss : List Int) (aL : Option Addr) (nL cL : Nat) (ls : List Int) : Prop where
  s : w.ownsRow B 5 1 (.slice aS nS cS) nS (bts ss)
  l : w.ownsRow B 5 1 (.slice aL nL cL) nL (bts ls)
  dis : ∀ g, (Value.slice aS nS cS).ownBlock = some g → (Value.slice aL nL cL).ownBlock ≠ some g
  bs : IsB ss
  bl : IsB ls
theorem TwoB.below {w w' : World} {B : Nat} {aS : Option Addr} {nS cS : Nat} {ss : List Int} {aL : Option Addr} {nL cL : Nat} {ls : List Int} (h : TwoB w B aS nS cS ss aL nL cL ls) (hb : Below w.heap.size w w') : TwoB w' B aS nS cS ss aL nL cL ls :=
  ⟨owns_below h.s hb, owns_below h.l hb, h.dis, h.bs, h.bl⟩
theorem TwoB.grown {w w' : World} {B s : Nat} {aS : Option Addr} {nS cS : Nat} {ss : List Int} {aL : Option Addr} {nL cL : Nat} {ls : List Int} (h : TwoB w B aS nS cS ss aL nL cL ls) (hg : w.grownBy w' (some s)) (hs : s < B) : TwoB w' B aS nS cS ss aL nL cL ls :=
  ⟨owns_grown h.s hg (fun g hk e => by have := (owns_own h.s hk).1; simp at e; omega), owns_grown h.l hg (fun g hk e => by have := (owns_own h.l hk).1; simp at e; omega), h.dis, h.bs, h.bl⟩
theorem TwoB.set {w : World} {B b o : Nat} {v : Value} {aS : Option Addr} {nS cS : Nat} {ss : List Int} {aL : Option Addr} {nL cL : Nat} {ls : List Int} (h : TwoB w B aS nS cS ss aL nL cL ls) (hb : b < B) : TwoB (w.setCell ⟨b, o, none⟩ v) B aS nS cS ss aL nL cL ls :=
  ⟨ownsRow_setCell_below (a := ⟨b, o, none⟩) h.s hb _, ownsRow_setCell_below (a := ⟨b, o, none⟩) h.l hb _, h.dis, h.bs, h.bl⟩
theorem TwoB.drw {w : World} {B : Nat} {aS : Option Addr} {nS cS : Nat} {ss : List Int} {aL : Option Addr} {nL cL : Nat} {ls : List Int} (h : TwoB w B aS nS cS ss aL nL cL ls) : TwoB w.drew B aS nS cS ss aL nL cL ls := ⟨h.s, h.l, h.dis, h.bs, h.bl⟩
theorem TwoB.base {w : World} {B B' : Nat} {aS : Option Addr} {nS cS : Nat} {ss : List Int} {aL : Option Addr} {nL cL : Nat} {ls : List Int} (h : TwoB w B aS nS cS ss aL nL cL ls) (hb : B' ≤ B) : TwoB w B' aS nS cS ss aL nL cL ls := ⟨owns_base h.s hb, owns_base h.l hb, h.dis, h.bs, h.bl⟩
theorem isB_nil : IsB [] := fun i => by simp
theorem TwoB.nil (w : World) (B : Nat) : TwoB w B none 0 0 [] none 0 0 [] := ⟨World.ownsRow_nil _ _ _ _, World.ownsRow_nil _ _ _ _, fun g h => by simp [Value.ownBlock] at h, isB_nil, isB_nil⟩

theorem specForce_two (ad ad' : Option Addr) (n m cap cap' : Nat) (ss ls : List Int) (w : World) (h : CellsAt w ad n (bts ss)) (h' : CellsAt w ad' m (bts ls)) (hb : IsB ss) (hb' : IsB ls) (hn : n ≤ 1048576) (hm : m ≤ 1048576) (hcap : n ≤ cap) (hcap' : m ≤ cap') :
    Calls Try.prog 55 #[.agg #[.slice ad n cap, .slice ad' m cap']] w fun e w' => ∃ (c p : Int) (a1 : Option Addr) (k c1 : Nat) (a2 : Option Addr) (c2 : Nat) (zs : List Int), e = .returned (.agg #[.int .i64 c, .int .i64 p, .slice a1 k c1, .slice a2 0 c2]) ∧ k ≤ n + m ∧ TwoB w' w.heap.size a1 k c1 zs a2 0 c2 [] ∧ Below w.heap.size w w' := by
  by_cases h0 : Ch.walFault ss ls = 0
  · refine (specForce_okO ad ad' n m cap cap' ss ls w h h' hb hb' hn hm hcap hcap' h0).mono ?_
    rintro e w' ⟨a1, c1, a2, c2, rfl, o1, o2, hd, b⟩
    exact ⟨0, _, a1, n + m, c1, a2, c2, ss ++ ls, rfl, Nat.le_refl _, ⟨o1, o2, hd, isB_append hb hb', isB_nil⟩, b⟩
  · refine (specForce_noO ad ad' n m cap cap' ss ls w h h' hb hb' hn hm hcap hcap' _ rfl (by simpa using h0)).mono ?_
    rintro e w' ⟨rfl, b⟩
    exact ⟨_, 0, none, 0, 0, none, 0, [], rfl, by omega, TwoB.nil _ _, b⟩

theorem row2 {W : World} {g : Nat} {t : TypeId} {u0 u1 : Value} (h : W.heap[g]? = some (.cells #[u0, u1] t (0, 0))) :
    W.cell? ⟨g, 0, none⟩ = some u0 ∧ W.cell? ⟨g, 1, none⟩ = some u1 ∧ W.frozen? ⟨g, 0, none⟩ = false ∧ W.frozen? ⟨g, 1, none⟩ = false :=
  ⟨cell_of_row _ _ _ _ _ _ h, cell_of_row _ _ _ _ _ _ h, frz_of h, frz_of h⟩
theorem field_wal (c p : Int) (s l : Value) (W : World) : (Instr.field 29 (.agg #[.int .i64 c, .int .i64 p, s, l]) 2).run Try.prog W = .ok (.agg #[s, l]) W := by kernel_rfl

theorem l2Pack_r (r : Ch.Rec) (w : World) (fit : r.Fit) :
    Calls Try.prog 52 #[.agg #[.int .i64 r.kd, .int .i64 r.tx, .int .i64 r.ky, .bool r.hd, .int .i64 r.ol, .bool r.hs, .int .i64 r.nw]] w fun e w' => ∃ g cp, e = .returned (.slice (some ⟨g, 0, none⟩) r.len cp) ∧ w'.ownsRow w.heap.size 5 1 (.slice (some ⟨g, 0, none⟩) r.len cp) r.len (bts r.bytes) ∧ Below w.heap.size w w' := l2Pack_any r.kd r.tx r.ky r.hd r.ol r.hs r.nw w fit

/-- Bytes of one's own behind those of a list, the other one untouched. -/
theorem TwoB.app {w w' : World} {B g c : Nat} {aS : Option Addr} {nS cS : Nat} {ss : List Int} {aL : Option Addr} {nL cL m : Nat} {ls bs : List Int} (h : TwoB w B aS nS cS ss aL nL cL ls) (hb : IsB bs)
    (ho : w'.ownsRow B 5 1 (.slice (some ⟨g, 0, none⟩) (nL + m) c) (nL + m) (bts ls ++ bts bs)) (hg : w.grownBy w' (Value.slice aL nL cL).ownBlock) (hat : (Value.slice aL nL cL).ownBlock = some g ∨ g = w.heap.size) :
    TwoB w' B aS nS cS ss (some ⟨g, 0, none⟩) (nL + m) c (ls ++ bs) := by
  refine ⟨owns_grown h.s hg (fun g' hk e => h.dis g' hk e), by rw [bts_append]; exact ho, fun g' hk e => ?_, h.bs, isB_append h.bl hb⟩
  simp only [Value.ownBlock, Option.some.injEq] at e
  subst e
  rcases hat with hat | hat
  · exact h.dis _ hk hat
  · have := (owns_own h.s hk).2
    omega
theorem TwoB.appS {w w' : World} {B g c : Nat} {aS : Option Addr} {nS cS : Nat} {ss : List Int} {aL : Option Addr} {nL cL m : Nat} {ls bs : List Int} (h : TwoB w B aS nS cS ss aL nL cL ls) (hb : IsB bs)
    (ho : w'.ownsRow B 5 1 (.slice (some ⟨g, 0, none⟩) (nS + m) c) (nS + m) (bts ss ++ bts bs)) (hg : w.grownBy w' (Value.slice aS nS cS).ownBlock) (hat : (Value.slice aS nS cS).ownBlock = some g ∨ g = w.heap.size) :
    TwoB w' B (some ⟨g, 0, none⟩) (nS + m) c (ss ++ bs) aL nL cL ls := by
  refine ⟨by rw [bts_append]; exact ho, owns_grown h.l hg (fun g' hk e => h.dis g' e hk), fun g' hk e => ?_, isB_append h.bs hb, h.bl⟩
  simp only [Value.ownBlock, Option.some.injEq] at hk
  subst hk
  rcases hat with hat | hat
  · exact h.dis _ hat e
  · have := (owns_own h.l e).2
    omega
theorem own_ne {w : World} {base : Nat} {e : TypeId} {size : Nat} {v : Value} {n : Nat} {xs : List Value} (h : w.ownsRow base e size v n xs) {b : Nat} (hb : b < base) : v.ownBlock ≠ some b := fun e => by
  have := (owns_own h e).1
  omega

theorem step_appL {ops : Array Oper} {o : Oper} {a : Act} {w : World} {K : Act → World → Prop} {Q : Exit → Act → World → Prop} {E : Prop} (s x : Operand)
    (B : Nat) (v : Value) (n : Nat) (xs : List Value) (g m c : Nat) (zs : List Int) (hm : n + m ≤ 1099511627776) (hm0 : 0 < m)
    (ho : o.op = .call { callee := .builtin .append, args := #[s, x], argTypes := #[22, 22] }) (hgd : o.guard = none)
    (hs : a.eval s = v) (hx : a.eval x = .slice (some ⟨g, 0, none⟩) m c) (hc : CellsAt w (some ⟨g, 0, none⟩) m (bts zs))
    (hown : w.ownsRow B 5 1 v n xs) (hbase : B ≤ w.heap.size)
    (hK : ∀ g' c' w', w'.ownsRow B 5 1 (.slice (some ⟨g', 0, none⟩) (n + m) c') (n + m) (xs ++ bts zs) → w.grownBy w' v.ownBlock → (v.ownBlock = some g' ∨ g' = w.heap.size) → K (a.put o.dst (.slice (some ⟨g', 0, none⟩) (n + m) c')) w') :
    if Region.wanted o (yielded ops a.tmps) = true then Oper.wp Try.prog o a w K Q else E := by
  obtain ⟨i0, hi, hz0, hz1, hz2⟩ := info_parts Try.info5
  have hl := hc.len.out
  refine step_append_lies w hgd s x 22 ho B 5 i0 _ 1 1 Try.underlying22 hi hz0 hz1 hz2 rfl (by omega) v n xs hs hown ⟨g, 0, none⟩ m c (bts zs) hx (by simp [bts]; omega) ?_ ?_ hm0 (by unfold maxLen; omega) (by omega) hbase _ rfl ?_
  · intro j u hj
    have hjl : j < (bts zs).length := (List.getElem?_eq_some_iff.1 hj).1
    simp [bts] at hjl
    obtain ⟨b, off, ha, hcc⟩ := hc.2 (by omega)
    simp only [Option.some.injEq, Addr.mk.injEq, and_true] at ha
    obtain ⟨rfl, rfl⟩ := ha
    have e : (⟨g, 0, none⟩ : Addr).add j = ⟨g, 0 + j, none⟩ := by
      unfold Addr.add
      split
      · next h0 => subst h0; rfl
      · rfl
    rw [e, hcc j (by omega), hj]
  · intro u hu
    obtain ⟨z, _, rfl⟩ := List.mem_map.1 hu
    rfl
  · intro g' c' w' h1 h2 h3 _
    exact hK g' c' w' h1 h2 h3

theorem wpList_appL {ops : Array Oper} {rest : List Oper} {o : Oper} {a : Act} {w : World} {Q : Exit → Act → World → Prop} (s x : Operand)
    (B : Nat) (v : Value) (n : Nat) (xs : List Value) (g m c : Nat) (zs : List Int) (hm : n + m ≤ 1099511627776) (hm0 : 0 < m)
    (ho : o.op = .call { callee := .builtin .append, args := #[s, x], argTypes := #[22, 22] }) (hgd : o.guard = none)
    (hs : a.eval s = v) (hx : a.eval x = .slice (some ⟨g, 0, none⟩) m c) (hc : CellsAt w (some ⟨g, 0, none⟩) m (bts zs))
    (hown : w.ownsRow B 5 1 v n xs) (hbase : B ≤ w.heap.size)
    (hK : ∀ g' c' w', w'.ownsRow B 5 1 (.slice (some ⟨g', 0, none⟩) (n + m) c') (n + m) (xs ++ bts zs) → w.grownBy w' v.ownBlock → (v.ownBlock = some g' ∨ g' = w.heap.size) → wpList Try.prog ops Q rest (a.put o.dst (.slice (some ⟨g', 0, none⟩) (n + m) c')) w') :
    wpList Try.prog ops Q (o :: rest) a w := by
  obtain ⟨i0, hi, hz0, hz1, hz2⟩ := info_parts Try.info5
  have hl := hc.len.out
  refine wpList_append_lies w hgd s x 22 ho B 5 i0 _ 1 1 Try.underlying22 hi hz0 hz1 hz2 rfl (by omega) v n xs hs hown ⟨g, 0, none⟩ m c (bts zs) hx (by simp [bts]; omega) ?_ ?_ hm0 (by unfold maxLen; omega) (by omega) hbase _ rfl ?_
  · intro j u hj
    have hjl : j < (bts zs).length := (List.getElem?_eq_some_iff.1 hj).1
    simp [bts] at hjl
    obtain ⟨b, off, ha, hcc⟩ := hc.2 (by omega)
    simp only [Option.some.injEq, Addr.mk.injEq, and_true] at ha
    obtain ⟨rfl, rfl⟩ := ha
    have e : (⟨g, 0, none⟩ : Addr).add j = ⟨g, 0 + j, none⟩ := by
      unfold Addr.add
      split
      · next h0 => subst h0; rfl
      · rfl
    rw [e, hcc j (by omega), hj]
  · intro u hu
    obtain ⟨z, _, rfl⟩ := List.mem_map.1 hu
    rfl
  · intro g' c' w' h1 h2 h3 _
    exact hK g' c' w' h1 h2 h3

theorem one_cell (w : World) (z : Int) : CellsAt (w.alloc (.cells #[.int .u8 z] 5)) (some ⟨w.heap.size, 0, none⟩) 1 (bts [z]) := by
  refine ⟨rfl, fun _ => ⟨w.heap.size, 0, rfl, fun i hi => ?_⟩⟩
  obtain rfl : i = 0 := by omega
  exact cell_of_row _ _ _ _ _ _ (heap_alloc_new w _)
theorem isB_one (z : Int) (h0 : 0 ≤ z) (h1 : z ≤ 255) : IsB [z] := fun i => by
  cases i with
  | zero => exact ⟨h0, h1⟩
  | succ i => simp
theorem isB_rep (k : Nat) : IsB (List.replicate k 0) := isB_of (fun z hz => by have := (List.mem_replicate.1 hz).2; subst this; decide)
theorem made_bytes {w : World} {B : Nat} {v : Value} {n : Nat} (h : w.ownsRow B 5 1 v n (madeCells (Value.int .u8 0).cells (n * 1)).toList) : w.ownsRow B 5 1 v n (bts (List.replicate n 0)) := by
  have e : (madeCells (Value.int .u8 0).cells (n * 1)).toList = bts (List.replicate n 0) := by
    have := toList_madeCells_one (.int .u8 0) (n * 1)
    simpa [bts, Value.cells] using this
  rwa [e] at h

set_option linter.unusedSimpArgs false in
set_option maxHeartbeats 8000000 in
theorem l2Wal_any (s : Nat) (a : Option Addr) (n cap k : Nat) (zs : List Int) (w : World) (h : Src w s a n cap k zs) (hb : IsB zs) (hn : n ≤ 1048580) (hk : k ≤ 800) :
    Calls Try.prog 32 #[.pointer (some ⟨s, 0, none⟩)] w fun e w' => ∃ (kk : Nat) (aS : Option Addr) (nS cS : Nat) (ss : List Int) (aL : Option Addr) (nL cL : Nat) (ls : List Int), e = .returned (.agg #[.slice aS nS cS, .slice aL nL cL]) ∧ TwoB w' w.heap.size aS nS cS ss aL nL cL ls ∧ nS ≤ 5000 ∧ nL ≤ 5000 ∧ kk ≤ k + 80 ∧ Src w' s a n cap kk zs ∧ w.grownBy w' (some s) := by
  have hsl := h.lt
  go_enter Try.func32, Try.ntmps32
  go_wp2_with fail
  refine (next_any 9 s a n cap k zs _ h.new.new hb hn (by omega) (by omega) (by omega)).mono ?_
  rintro e w1 ⟨⟨v, v0, v1, rfl⟩, s1, g1⟩
  have hR : w1.heap[w.heap.size]? = some (.cells #[.slice none 0 0, .slice none 0 0] 25 (0, 0)) := gr_heap g1 ((Below.heap_alloc _ _ _ (by simp)).trans (heap_alloc_new w _)) (by simp; omega)
  have hX : w1.heap[w.heap.size + 1]? = some (.cells #[.slice none 0 0, .slice none 0 0] 25 (0, 0)) := gr_heap g1 (heap_new' (by simp)) (by simp; omega)
  have G := gr_alloc (gr_alloc g1)
  obtain ⟨j0, rfl⟩ : ∃ j : Nat, v = j := ⟨v.toNat, by omega⟩
  go_wp2_with fail
  go_loopw [4] (fun i wr => ∃ j : Nat, j ≤ 8 ∧ i = .int .i64 j ∧ ∃ (kk : Nat) (aS : Option Addr) (nS cS : Nat) (ss : List Int) (aL : Option Addr) (nL cL : Nat) (ls : List Int), wr.heap[w.heap.size]? = some (.cells #[.slice none 0 0, .slice none 0 0] 25 (0, 0)) ∧ wr.heap[w.heap.size + 1]? = some (.cells #[.slice aS nS cS, .slice aL nL cL] 25 (0, 0)) ∧ TwoB wr (w.heap.size + 2) aS nS cS ss aL nL cL ls ∧ (nS + nL + 11 * j ≤ 88 ∧ kk + 8 * j ≤ k + 65) ∧ Src wr s a n cap kk zs ∧ w.grownBy wr (some s)) (fun i _ => (intOf i).toNat)
  case atStart => exact ⟨j0, by omega, rfl, k + 1, none, 0, 0, [], none, 0, 0, [], hR, hX, TwoB.nil _ _, ⟨by omega, by omega⟩, s1, G⟩
  case round =>
    clear hR hX G g1 s1 v0 v1
    obtain ⟨j, hj, rfl, kk, aS, nS, cS, ss, aL, nL, cL, ls, hR, hX, T, ⟨hlen, hkk⟩, S0, G⟩ := hrel
    have hXl := (Array.getElem?_eq_some_iff.1 hX).1
    by_cases hlt : 0 < j
    · have hj0 : (0 : Int) < (j : Int) := by omega
      go_upto_region 5 with fail
      go_cut [] (fun wx => ∃ (k1 : Nat) (a1 : Option Addr) (n1 c1 : Nat) (l1 : List Int), wx.heap[w.heap.size]? = some (.cells #[.slice none 0 0, .slice none 0 0] 25 (0, 0)) ∧ wx.heap[w.heap.size + 1]? = some (.cells #[.slice aS nS cS, .slice a1 n1 c1] 25 (0, 0)) ∧ TwoB wx (w.heap.size + 2) aS nS cS ss a1 n1 c1 l1 ∧ (n1 ≤ nL + 11 ∧ k1 ≤ kk + 7) ∧ Src wx s a n cap k1 zs ∧ w.grownBy wx (some s))
      case first =>
        refine wp_region_noPanic ?_
        refine wp_region_held_drew (S := fun W' => True) (by kernel_rfl) (trivial) (fun hH => ?_)
        refine hTake (i := 0) (v := ?_) rfl (by kernel_rfl) (by kernel_rfl) (by kernel_rfl) (by rfl) ?_ hH ?_
        rotate_left
        · intro W hW; (try dsimp only at hW); go_simp <;> with_reducible rfl
        simp only [Act.put, List.setIfInBounds_toArray, List.set_cons_zero, List.set_cons_succ]
        refine hTake (i := 2) (v := ?_) rfl (by kernel_rfl) (by kernel_rfl) (by kernel_rfl) (by rfl) ?_ hH ?_
        rotate_left
        · intro W hW; (try dsimp only at hW); go_simp <;> with_reducible rfl
        simp only [Act.put, List.setIfInBounds_toArray, List.set_cons_zero, List.set_cons_succ]
        refine wpAnyH_ready (rs := [1, 3]) (by kernel_rfl) (by simp) ?_
        refine AllReadyH.cons rfl (fun K hK => ?_) (AllReadyH.cons rfl (fun K hK => ?_) AllReadyH.nil)
        · have q1 : wr.drew.cell? ⟨w.heap.size + 1, 1, none⟩ = some (.slice aL nL cL) := (row2 hX).2.1
          go_simp
          refine hK.out _ _ trivial (fun hH => ?_)
          clear hK K
          refine wpAnyH_ready (rs := [3]) (by kernel_rfl) (by simp) ?_
          refine AllReadyH.cons rfl (fun K hK => ?_) AllReadyH.nil
          go_simp
          refine (l2Rec_fit s a n cap kk zs _ (S0.drewN 1) hb hn (by omega)).mono ?_
          rintro e w2 ⟨r, k2, rfl, fit, hk2, S2, g2⟩
          go_wp2_with fail
          refine hK.out _ _ trivial (fun hH => ?_)
          clear hK K
          refine wpAnyH_ready (rs := [4]) (by kernel_rfl) (by simp) ?_
          refine AllReadyH.cons rfl (fun K hK => ?_) AllReadyH.nil
          go_simp
          refine (l2Pack_r r _ fit).mono ?_
          rintro e w3 ⟨g3, c3, rfl, o3, b3⟩
          go_wp2_with fail
          refine hK.out _ _ trivial (fun hH => ?_)
          clear hK K
          have T3 := (T.drw.grown g2 (by omega)).below b3
          have hlen3 := r.len_bd
          have z2 := g2.size
          have z3 := b3.size
          have hR3 := (b3.block w.heap.size (by simp at z2; omega)).trans (gr_heap (o := .cells #[.slice none 0 0, .slice none 0 0] 25 (0, 0)) g2 hR (by simp; omega))
          have hX3 := (b3.block (w.heap.size + 1) (by simp at z2; omega)).trans (gr_heap (o := .cells #[.slice aS nS cS, .slice aL nL cL] 25 (0, 0)) g2 hX (by simp; omega))
          have S3 := S2.below b3 (by have := S2.lt; omega)
          have G3 := gr_on (gr_trans (gr_drewN G 1) g2) (b3.mono (by have := G.size; simp at z2; omega))
          clear g2 S2
          refine wpAnyH_ready (rs := [5]) (by kernel_rfl) (by simp) ?_
          refine AllReadyH.cons rfl (fun K hK => ?_) AllReadyH.nil
          refine step_appL (.tmp 13) (.tmp 16) (w.heap.size + 2) (.slice aL nL cL) nL (bts ls) g3 r.len c3 r.bytes (by omega) (by omega) rfl rfl rfl rfl (owns_bytes o3) T3.l (by simp at z2; omega) ?_
          intro g4 c4 w4 o4 g4' hat4
          refine hK.out _ _ trivial (fun hH => ?_)
          clear hK K
          simp only [Act.put, List.setIfInBounds_toArray, List.set_cons_zero, List.set_cons_succ]
          have T4 := T3.app (isB_of (Ch.Rec.all_bytes fit)) o4 g4' hat4
          have hR4 := gr_heap g4' hR3 (own_ne T3.l (by omega))
          have hX4 := gr_heap g4' hX3 (own_ne T3.l (by omega))
          have S4 := S3.grown g4' (fun r' hr' => by have := (owns_own T3.l hr').1; omega)
          have G4 : w.grownBy w4 (some s) := ⟨g4'.os.trans G3.os, g4'.tape.trans G3.tape, g4'.output.trans G3.output, Nat.le_trans G3.size g4'.size, fun q hq hne => (g4'.block q (Nat.lt_of_lt_of_le hq G3.size) (fun e => own_ne T3.l (b := q) (by omega) e.symm)).trans (G3.block q hq hne)⟩
          clear G3 S3 hR3 T3
          obtain ⟨y0, y1, f0, f1⟩ := row2 hX4
          refine hTake (i := 6) (v := ?_) rfl (by kernel_rfl) (by kernel_rfl) (by kernel_rfl) (by rfl) ?_ hH ?_
          rotate_left
          · intro W hW; (try dsimp only at hW); go_simp <;> with_reducible rfl
          simp only [Act.put, List.setIfInBounds_toArray, List.set_cons_zero, List.set_cons_succ]
          refine wpAnyH_ready (rs := [7]) (by kernel_rfl) (by simp) ?_
          refine AllReadyH.cons rfl (fun K hK => ?_) AllReadyH.nil
          go_simp
          refine hK.out _ _ trivial (fun hH => ?_)
          clear hK K
          refine wpAnyH_done (by kernel_rfl) ?_ _
          refine NoPanic.normal ?_
          go_wp2_with fail
          go_meet
          refine ⟨k2, _, _, _, _, ?_, ?_, T4.set (by omega), ⟨by omega, hk2⟩, S4.set (by have := S4.lt; omega), gr_set' G4 (by omega)⟩
          · exact (Below.heap_setCell _ _ _ _ (by show w.heap.size ≠ w.heap.size + 1; omega)).trans hR4
          · have := Joins.block_setCell (i := 1) hX4 (.slice (some ⟨g4, 0, none⟩) (nL + r.len) c4)
            simpa using this
        · go_simp
          refine (l2Rec_fit s a n cap kk zs _ (S0.drewN 1) hb hn (by omega)).mono ?_
          rintro e w2 ⟨r, k2, rfl, fit, hk2, S2, g2⟩
          go_wp2_with fail
          refine hK.out _ _ trivial (fun hH => ?_)
          clear hK K
          refine wpAnyH_ready (rs := [1, 4]) (by kernel_rfl) (by simp) ?_
          refine AllReadyH.cons rfl (fun K hK => ?_) (AllReadyH.cons rfl (fun K hK => ?_) AllReadyH.nil)
          · have q1 : w2.cell? ⟨w.heap.size + 1, 1, none⟩ = some (.slice aL nL cL) := (row2 (gr_heap (o := .cells #[.slice aS nS cS, .slice aL nL cL] 25 (0, 0)) g2 hX (by simp; omega))).2.1
            go_simp
            refine hK.out _ _ trivial (fun hH => ?_)
            clear hK K
            refine wpAnyH_ready (rs := [4]) (by kernel_rfl) (by simp) ?_
            refine AllReadyH.cons rfl (fun K hK => ?_) AllReadyH.nil
            go_simp
            refine (l2Pack_r r _ fit).mono ?_
            rintro e w3 ⟨g3, c3, rfl, o3, b3⟩
            go_wp2_with fail
            refine hK.out _ _ trivial (fun hH => ?_)
            clear hK K
            have T3 := (T.drw.grown g2 (by omega)).below b3
            have hlen3 := r.len_bd
            have z2 := g2.size
            have z3 := b3.size
            have hR3 := (b3.block w.heap.size (by simp at z2; omega)).trans (gr_heap (o := .cells #[.slice none 0 0, .slice none 0 0] 25 (0, 0)) g2 hR (by simp; omega))
            have hX3 := (b3.block (w.heap.size + 1) (by simp at z2; omega)).trans (gr_heap (o := .cells #[.slice aS nS cS, .slice aL nL cL] 25 (0, 0)) g2 hX (by simp; omega))
            have S3 := S2.below b3 (by have := S2.lt; omega)
            have G3 := gr_on (gr_trans (gr_drewN G 1) g2) (b3.mono (by have := G.size; simp at z2; omega))
            clear g2 S2
            refine wpAnyH_ready (rs := [5]) (by kernel_rfl) (by simp) ?_
            refine AllReadyH.cons rfl (fun K hK => ?_) AllReadyH.nil
            refine step_appL (.tmp 13) (.tmp 16) (w.heap.size + 2) (.slice aL nL cL) nL (bts ls) g3 r.len c3 r.bytes (by omega) (by omega) rfl rfl rfl rfl (owns_bytes o3) T3.l (by simp at z2; omega) ?_
            intro g4 c4 w4 o4 g4' hat4
            refine hK.out _ _ trivial (fun hH => ?_)
            clear hK K
            simp only [Act.put, List.setIfInBounds_toArray, List.set_cons_zero, List.set_cons_succ]
            have T4 := T3.app (isB_of (Ch.Rec.all_bytes fit)) o4 g4' hat4
            have hR4 := gr_heap g4' hR3 (own_ne T3.l (by omega))
            have hX4 := gr_heap g4' hX3 (own_ne T3.l (by omega))
            have S4 := S3.grown g4' (fun r' hr' => by have := (owns_own T3.l hr').1; omega)
            have G4 : w.grownBy w4 (some s) := ⟨g4'.os.trans G3.os, g4'.tape.trans G3.tape, g4'.output.trans G3.output, Nat.le_trans G3.size g4'.size, fun q hq hne => (g4'.block q (Nat.lt_of_lt_of_le hq G3.size) (fun e => own_ne T3.l (b := q) (by omega) e.symm)).trans (G3.block q hq hne)⟩
            clear G3 S3 hR3 T3
            obtain ⟨y0, y1, f0, f1⟩ := row2 hX4
            refine hTake (i := 6) (v := ?_) rfl (by kernel_rfl) (by kernel_rfl) (by kernel_rfl) (by rfl) ?_ hH ?_
            rotate_left
            · intro W hW; (try dsimp only at hW); go_simp <;> with_reducible rfl
            simp only [Act.put, List.setIfInBounds_toArray, List.set_cons_zero, List.set_cons_succ]
            refine wpAnyH_ready (rs := [7]) (by kernel_rfl) (by simp) ?_
            refine AllReadyH.cons rfl (fun K hK => ?_) AllReadyH.nil
            go_simp
            refine hK.out _ _ trivial (fun hH => ?_)
            clear hK K
            refine wpAnyH_done (by kernel_rfl) ?_ _
            refine NoPanic.normal ?_
            go_wp2_with fail
            go_meet
            refine ⟨k2, _, _, _, _, ?_, ?_, T4.set (by omega), ⟨by omega, hk2⟩, S4.set (by have := S4.lt; omega), gr_set' G4 (by omega)⟩
            · exact (Below.heap_setCell _ _ _ _ (by show w.heap.size ≠ w.heap.size + 1; omega)).trans hR4
            · have := Joins.block_setCell (i := 1) hX4 (.slice (some ⟨g4, 0, none⟩) (nL + r.len) c4)
              simpa using this
          · go_simp
            refine (l2Pack_r r _ fit).mono ?_
            rintro e w3 ⟨g3, c3, rfl, o3, b3⟩
            go_wp2_with fail
            refine hK.out _ _ trivial (fun hH => ?_)
            clear hK K
            refine wpAnyH_ready (rs := [1]) (by kernel_rfl) (by simp) ?_
            refine AllReadyH.cons rfl (fun K hK => ?_) AllReadyH.nil
            have q1 : w3.cell? ⟨w.heap.size + 1, 1, none⟩ = some (.slice aL nL cL) := keep_cell b3 (row2 (gr_heap (o := .cells #[.slice aS nS cS, .slice aL nL cL] 25 (0, 0)) g2 hX (by simp; omega))).2.1
            go_simp
            refine hK.out _ _ trivial (fun hH => ?_)
            clear hK K
            have T3 := (T.drw.grown g2 (by omega)).below b3
            have hlen3 := r.len_bd
            have z2 := g2.size
            have z3 := b3.size
            have hR3 := (b3.block w.heap.size (by simp at z2; omega)).trans (gr_heap (o := .cells #[.slice none 0 0, .slice none 0 0] 25 (0, 0)) g2 hR (by simp; omega))
            have hX3 := (b3.block (w.heap.size + 1) (by simp at z2; omega)).trans (gr_heap (o := .cells #[.slice aS nS cS, .slice aL nL cL] 25 (0, 0)) g2 hX (by simp; omega))
            have S3 := S2.below b3 (by have := S2.lt; omega)
            have G3 := gr_on (gr_trans (gr_drewN G 1) g2) (b3.mono (by have := G.size; simp at z2; omega))
            clear g2 S2
            refine wpAnyH_ready (rs := [5]) (by kernel_rfl) (by simp) ?_
            refine AllReadyH.cons rfl (fun K hK => ?_) AllReadyH.nil
            refine step_appL (.tmp 13) (.tmp 16) (w.heap.size + 2) (.slice aL nL cL) nL (bts ls) g3 r.len c3 r.bytes (by omega) (by omega) rfl rfl rfl rfl (owns_bytes o3) T3.l (by simp at z2; omega) ?_
            intro g4 c4 w4 o4 g4' hat4
            refine hK.out _ _ trivial (fun hH => ?_)
            clear hK K
            simp only [Act.put, List.setIfInBounds_toArray, List.set_cons_zero, List.set_cons_succ]
            have T4 := T3.app (isB_of (Ch.Rec.all_bytes fit)) o4 g4' hat4
            have hR4 := gr_heap g4' hR3 (own_ne T3.l (by omega))
            have hX4 := gr_heap g4' hX3 (own_ne T3.l (by omega))
            have S4 := S3.grown g4' (fun r' hr' => by have := (owns_own T3.l hr').1; omega)
            have G4 : w.grownBy w4 (some s) := ⟨g4'.os.trans G3.os, g4'.tape.trans G3.tape, g4'.output.trans G3.output, Nat.le_trans G3.size g4'.size, fun q hq hne => (g4'.block q (Nat.lt_of_lt_of_le hq G3.size) (fun e => own_ne T3.l (b := q) (by omega) e.symm)).trans (G3.block q hq hne)⟩
            clear G3 S3 hR3 T3
            obtain ⟨y0, y1, f0, f1⟩ := row2 hX4
            refine hTake (i := 6) (v := ?_) rfl (by kernel_rfl) (by kernel_rfl) (by kernel_rfl) (by rfl) ?_ hH ?_
            rotate_left
            · intro W hW; (try dsimp only at hW); go_simp <;> with_reducible rfl
            simp only [Act.put, List.setIfInBounds_toArray, List.set_cons_zero, List.set_cons_succ]
            refine wpAnyH_ready (rs := [7]) (by kernel_rfl) (by simp) ?_
            refine AllReadyH.cons rfl (fun K hK => ?_) AllReadyH.nil
            go_simp
            refine hK.out _ _ trivial (fun hH => ?_)
            clear hK K
            refine wpAnyH_done (by kernel_rfl) ?_ _
            refine NoPanic.normal ?_
            go_wp2_with fail
            go_meet
            refine ⟨k2, _, _, _, _, ?_, ?_, T4.set (by omega), ⟨by omega, hk2⟩, S4.set (by have := S4.lt; omega), gr_set' G4 (by omega)⟩
            · exact (Below.heap_setCell _ _ _ _ (by show w.heap.size ≠ w.heap.size + 1; omega)).trans hR4
            · have := Joins.block_setCell (i := 1) hX4 (.slice (some ⟨g4, 0, none⟩) (nL + r.len) c4)
              simpa using this
      case rest =>
        obtain ⟨k1, a1, n1, c1, l1, hR1, hX1, T1, ⟨hn1, hk1⟩, S1, G1⟩ := hcut
        clear hR hX T S0 G
        have hXl1 := (Array.getElem?_eq_some_iff.1 hX1).1
        obtain ⟨y0, y1, f0, f1⟩ := row2 hX1
        go_wp2_with fail
        refine (chance_any 3 s a n cap k1 zs _ S1 hb hn (by omega) (by omega) (by omega)).mono ?_
        rintro e w5 ⟨⟨b5, rfl⟩, S5, g5⟩
        have hR5 := gr_heap g5 hR1 (by simp; omega)
        have hX5 := gr_heap g5 hX1 (by simp; omega)
        have T5 := T1.grown g5 (by omega)
        have G5 := gr_trans G1 g5
        have hj1 : ((j : Int) - 1) = ((j - 1 : Nat) : Int) := by omega
        have hwj : IntKind.i64.wrap ((j : Int) - 1) = ((j - 1 : Nat) : Int) := by rw [hj1]; exact IntWalk.i64_in _ ⟨by omega, by omega⟩
        clear hR1 hX1 T1 S1 G1 g5 y0 y1 f0 f1
        obtain ⟨y0, y1, f0, f1⟩ := row2 hX5
        cases b5
        · go_wp2_with fail
          go_roundw
          case rel => exact ⟨j - 1, by omega, rfl, k1 + 1, aS, nS, cS, ss, a1, n1, c1, l1, hR5, hX5, T5, ⟨by omega, by omega⟩, S5, G5⟩
          case measure => simp [intOf]; omega
        · go_wp2_with fail
          refine (specForce_two aS a1 nS n1 cS c1 ss l1 _ (owns_bytes T5.s) (owns_bytes T5.l) T5.bs T5.bl (by omega) (by omega) (owns_cap T5.s) (owns_cap T5.l)).mono ?_
          rintro e w6 ⟨fc, fp, a6, n6, c6, a7, c7, z6, rfl, hn6, T6, b6⟩
          have hfd := fun W => field_wal fc fp (.slice a6 n6 c6) (.slice a7 0 c7) W
          have hXl5 := (Array.getElem?_eq_some_iff.1 hX5).1
          have hR6 := (b6.block w.heap.size (by omega)).trans hR5
          have hX6 := (b6.block (w.heap.size + 1) (by omega)).trans hX5
          have S6 := S5.below b6 S5.lt
          have G6 := gr_on G5 (b6.mono G5.size)
          clear hR5 hX5 T5 S5 G5 y0 y1 f0 f1
          obtain ⟨y0, y1, f0, f1⟩ := row2 hX6
          have hX7 := Joins.block_setCell (i := 1) (Joins.block_setCell (i := 0) hX6 (.slice a6 n6 c6)) (.slice a7 0 c7)
          go_wp2_with fail
          go_roundw
          case rel =>
            refine ⟨j - 1, by omega, rfl, k1 + 1, a6, n6, c6, z6, a7, 0, c7, [], ?_, by simpa using hX7, ((T6.base (by omega)).set (by omega)).set (by omega), ⟨by omega, by omega⟩, (S6.set (by omega)).set (by omega), gr_set' (gr_set' G6 (by omega)) (by omega)⟩
            exact ((Below.heap_setCell _ _ _ _ (by show w.heap.size ≠ w.heap.size + 1; omega)).trans (Below.heap_setCell _ _ _ _ (by show w.heap.size ≠ w.heap.size + 1; omega))).trans hR6
          case measure => simp [intOf]; omega
    · obtain rfl : j = 0 := by omega
      go_wp2_with fail
      refine (next_any 18 s a n cap kk zs _ S0 hb hn (by omega) (by omega) (by omega)).mono ?_
      rintro e w2 ⟨⟨v, v0, v1, rfl⟩, S2, g2⟩
      have hR2 := gr_heap g2 hR (by simp; omega)
      have hX2 := gr_heap g2 hX (by simp; omega)
      have T2 := T.grown g2 (by omega)
      have G2 := gr_trans G g2
      have hXl2 := (Array.getElem?_eq_some_iff.1 hX2).1
      clear hR hX T S0 G g2
      by_cases e0 : v = 0
      · subst e0
        have b3 : Below w2.heap.size w2 (w2.alloc (.cells #[.int .u8 9] 5)) := (Below.refl _ _).alloc (Nat.le_refl _) _
        have T3 := T2.below b3
        have hR3 := (heap_old' (o := .cells #[.int .u8 9] 5) (show w.heap.size < w2.heap.size by omega)).trans hR2
        have hX3 := (heap_old' (o := .cells #[.int .u8 9] 5) hXl2).trans hX2
        have S3 := S2.below b3 S2.lt
        have G3 := gr_on G2 (b3.mono G2.size)
        have hc3 : CellsAt (w2.alloc (.cells #[.int .u8 9] 5)) (some ⟨w2.heap.size, 0, none⟩) 1 (bts [9]) := one_cell w2 9
        have hB3 : w.heap.size + 2 ≤ (w2.alloc (.cells #[.int .u8 9] 5)).heap.size := by simp; omega
        obtain ⟨y0, y1, f0, f1⟩ := row2 hX2
        have hsum : nL + 1 ≤ 1099511627776 := by omega
        go_wp2_with (at_builtin; go_must (refine wpList_appL (.tmp 29) (.tmp 30) (w.heap.size + 2) (.slice aL nL cL) nL (bts ls) w2.heap.size 1 1 [9] hsum (by omega) ?_ ?_ ?_ ?_ ?_ ?_ ?_ ?_; exact rfl; exact rfl; exact rfl; exact rfl; exact hc3; exact T3.l; exact hB3; intro g4 c4 w4 o4 g4' hat4; have hR4 := gr_heap g4' hR3 (own_ne T3.l (by omega)); have hX4 := gr_heap g4' hX3 (own_ne T3.l (by omega)); obtain ⟨x0, x1, p0, p1⟩ := row2 hX4; obtain ⟨z0, z1, q0, q1⟩ := row2 hR4))
        have T4 := T3.app (isB_one 9 (by omega) (by omega)) o4 g4' hat4
        have S4 := S3.grown g4' (fun r' hr' => by have := (owns_own T3.l hr').1; have := S3.lt; omega)
        have G4 : w.grownBy w4 (some s) := ⟨g4'.os.trans G3.os, g4'.tape.trans G3.tape, g4'.output.trans G3.output, Nat.le_trans G3.size g4'.size, fun q hq hne => (g4'.block q (Nat.lt_of_lt_of_le hq G3.size) (fun e => own_ne T3.l (b := q) (by omega) e.symm)).trans (G3.block q hq hne)⟩
        exact bodyPost_ret (v := .agg #[.slice aS nS cS, .slice (some ⟨g4, 0, none⟩) (nL + 1) c4]) (by simp [results, Try.results32, go_sem, z0, z1]) rfl ⟨kk + 1, aS, nS, cS, ss, _, nL + 1, c4, _, rfl, (((T4.set (by omega)).set (by omega)).set (by omega)).base (by omega), by omega, by omega, by omega, ((S4.set (by have := S4.lt; omega)).set (by omega)).set (by omega), gr_set' (gr_set' (gr_set' G4 (by omega)) (by omega)) (by omega)⟩
      by_cases e1 : v = 1
      · subst e1
        have b3 : Below w2.heap.size w2 (w2.alloc (.cells #[.int .u8 1] 5)) := (Below.refl _ _).alloc (Nat.le_refl _) _
        have T3 := T2.below b3
        have hR3 := (heap_old' (o := .cells #[.int .u8 1] 5) (show w.heap.size < w2.heap.size by omega)).trans hR2
        have hX3 := (heap_old' (o := .cells #[.int .u8 1] 5) hXl2).trans hX2
        have S3 := S2.below b3 S2.lt
        have G3 := gr_on G2 (b3.mono G2.size)
        have hc3 : CellsAt (w2.alloc (.cells #[.int .u8 1] 5)) (some ⟨w2.heap.size, 0, none⟩) 1 (bts [1]) := one_cell w2 1
        have hB3 : w.heap.size + 2 ≤ (w2.alloc (.cells #[.int .u8 1] 5)).heap.size := by simp; omega
        obtain ⟨y0, y1, f0, f1⟩ := row2 hX2
        have hsum : nS + 1 ≤ 1099511627776 := by omega
        go_wp2_with (at_builtin; go_must (refine wpList_appL (.tmp 36) (.tmp 37) (w.heap.size + 2) (.slice aS nS cS) nS (bts ss) w2.heap.size 1 1 [1] hsum (by omega) ?_ ?_ ?_ ?_ ?_ ?_ ?_ ?_; exact rfl; exact rfl; exact rfl; exact rfl; exact hc3; exact T3.s; exact hB3; intro g4 c4 w4 o4 g4' hat4; have hR4 := gr_heap g4' hR3 (own_ne T3.s (by omega)); have hX4 := gr_heap g4' hX3 (own_ne T3.s (by omega)); obtain ⟨x0, x1, p0, p1⟩ := row2 hX4; obtain ⟨z0, z1, q0, q1⟩ := row2 hR4))
        have T4 := T3.appS (isB_one 1 (by omega) (by omega)) o4 g4' hat4
        have S4 := S3.grown g4' (fun r' hr' => by have := (owns_own T3.s hr').1; have := S3.lt; omega)
        have G4 : w.grownBy w4 (some s) := ⟨g4'.os.trans G3.os, g4'.tape.trans G3.tape, g4'.output.trans G3.output, Nat.le_trans G3.size g4'.size, fun q hq hne => (g4'.block q (Nat.lt_of_lt_of_le hq G3.size) (fun e => own_ne T3.s (b := q) (by omega) e.symm)).trans (G3.block q hq hne)⟩
        exact bodyPost_ret (v := .agg #[.slice (some ⟨g4, 0, none⟩) (nS + 1) c4, .slice aL nL cL]) (by simp [results, Try.results32, go_sem, z0, z1]) rfl ⟨kk + 1, _, nS + 1, c4, _, aL, nL, cL, ls, rfl, (((T4.set (by omega)).set (by omega)).set (by omega)).base (by omega), by omega, by omega, by omega, ((S4.set (by have := S4.lt; omega)).set (by omega)).set (by omega), gr_set' (gr_set' (gr_set' G4 (by omega)) (by omega)) (by omega)⟩
      have e0' : (v == 0) = false := by simp [e0]
      have e1' : (v == 1) = false := by simp [e1]
      by_cases e2 : v = 2
      · subst e2
        obtain ⟨i0, hi, hz0, hz1, hz2⟩ := info_parts Try.info5
        have hBb : w.heap.size + 2 ≤ w2.heap.size := by omega
        go_wp2_with (at_make; refine wpList_make_full _ rfl _ _ 22 rfl (w.heap.size + 2) 5 i0 (.int .u8 0) 1 Try.underlying22 hi hz0 hz1 .i64 .i64 _ _ 4001 rfl rfl rfl rfl (by rw [hz2]; omega) (by unfold maxLen; omega) hBb ?_; intro w4 o4 g4'; have hR4 := gr_heap g4' hR2 (by simp); have hX4 := gr_heap g4' hX2 (by simp); obtain ⟨x0, x1, p0, p1⟩ := row2 hX4; obtain ⟨z0, z1, q0, q1⟩ := row2 hR4)
        have b4 : Below w2.heap.size w2 w4 := (Below.refl _ _).grown g4' (Nat.le_refl _) (by simp)
        have T4 : TwoB w4 (w.heap.size + 2) aS nS cS ss (some ⟨w2.heap.size, 0, none⟩) 4001 4001 (List.replicate 4001 0) := ⟨owns_below T2.s b4, made_bytes o4, fun g hg e => by have := (owns_own T2.s hg).2; simp [Value.ownBlock] at e; omega, T2.bs, isB_rep 4001⟩
        have S4 := S2.below b4 S2.lt
        have G4 := gr_on G2 (b4.mono G2.size)
        exact bodyPost_ret (v := .agg #[.slice aS nS cS, .slice (some ⟨w2.heap.size, 0, none⟩) 4001 4001]) (by simp [results, Try.results32, go_sem, z0, z1]) rfl ⟨kk + 1, aS, nS, cS, ss, _, 4001, 4001, _, rfl, (((T4.set (by omega)).set (by omega)).set (by omega)).base (by omega), by omega, by omega, by omega, ((S4.set (by have := S4.lt; omega)).set (by omega)).set (by omega), gr_set' (gr_set' (gr_set' G4 (by omega)) (by omega)) (by omega)⟩
      have e2' : (v == 2) = false := by simp [e2]
      obtain ⟨x0, x1, p0, p1⟩ := row2 hX2
      obtain ⟨z0, z1, q0, q1⟩ := row2 hR2
      go_wp2_with fail
      exact bodyPost_ret (v := .agg #[.slice aS nS cS, .slice aL nL cL]) (by simp [results, Try.results32, go_sem, z0, z1]) rfl ⟨kk + 1, aS, nS, cS, ss, aL, nL, cL, ls, rfl, ((T2.set (by omega)).set (by omega)).base (by omega), by omega, by omega, by omega, (S2.set (by omega)).set (by omega), gr_set' (gr_set' G2 (by omega)) (by omega)⟩
end Go.Proofs.Ytommekhmdmnjlaa
