/- Chapter 2 at slices that may be nil: appends, Concat, the model's l2Of. -/
import Derived.Test.YtommekhmdmnjlaaForceS
import Derived.Test.YtommekhmdmnjlaaRecsA
namespace Go.Proofs.Ytommekhmdmnjlaa
open Go.RowKit

theorem app_nilV {B n m : Nat} {v : Value} {xs : List Value} (c ty : Nat) (w : World) (hown : w.ownsRow B 5 1 v n xs) (hm : m = 0) : (Builtin.append_ #[22, 22] ty #[v, .slice none m c]).run Try.prog w = .ok v w := by
  subst hm
  rcases hown.2 with ⟨hv, h0⟩ | ⟨g, cp, cur, hv, _, _, h1, _⟩
  · subst hv
    obtain ⟨i0, hi, hz0, hz1, hz2⟩ := info_parts Try.info5
    simp [Builtin.append_, run_underlying Try.underlying22, sizeOf, typeInfo, hi, Builtin.lenOf, Builtin.firstCells]
  · subst hv
    exact app_nil g n cp c ty w h1

theorem owns_own {w : World} {base : Nat} {e : TypeId} {size : Nat} {v : Value} {n : Nat} {xs : List Value} (h : w.ownsRow base e size v n xs) {g : Nat} (hg : v.ownBlock = some g) : base ≤ g ∧ g < w.heap.size := by
  rcases h.2 with ⟨hv, _⟩ | ⟨g', cap', cur, hv, hb, hh, _⟩
  · subst hv; simp [Value.ownBlock] at hg
  · subst hv
    simp only [Value.ownBlock, Option.some.injEq] at hg
    subst hg
    exact ⟨hb, (Array.getElem?_eq_some_iff.1 hh).1⟩

/-- Bytes at any place, nil too, appended to bytes of one's own. -/
theorem wpList_appVO {ops : Array Oper} {rest : List Oper} {o : Oper} {a : Act} {w : World} {Q : Exit → Act → World → Prop} (s x : Operand)
    (B : Nat) (v : Value) (n : Nat) (xs : List Value) (m : Nat) (zs : List Int) (hm : n + m ≤ 1099511627776)
    (ho : o.op = .call { callee := .builtin .append, args := #[s, x], argTypes := #[22, 22] }) (hgd : o.guard = none)
    (hs : a.eval s = v) (hx : ∃ A c, a.eval x = .slice A m c ∧ CellsAt w A m (bts zs))
    (hown : w.ownsRow B 5 1 v n xs) (hbase : B ≤ w.heap.size)
    (hK : ∀ a' c' w', w'.ownsRow B 5 1 (.slice a' (n + m) c') (n + m) (xs ++ bts zs) → Below B w w' → wpList Try.prog ops Q rest (a.put o.dst (.slice a' (n + m) c')) w') :
    wpList Try.prog ops Q (o :: rest) a w := by
  obtain ⟨A, c, hx, hc⟩ := hx
  cases A with
  | some ad => exact wpList_appV s x B _ n xs m zs hm ho hgd hs ⟨ad, c, hx, hc⟩ hown hbase hK
  | none =>
    have hm0 : m = 0 := by
      rcases Nat.eq_zero_or_pos m with h | h
      · exact h
      · obtain ⟨b, off, hb, _⟩ := hc.2 h; cases hb
    have hz : zs = [] := by have := hc.len.out; exact List.length_eq_zero_iff.1 (by omega)
    subst hz
    obtain ⟨a', c', rfl⟩ := owns_shape hown
    refine Lib.wpList_append_run w hgd s x 22 22 ho _ _ hs hx _ _ (app_nilV c o.type w hown hm0) ?_
    subst hm0
    have := hK a' c' w (by simpa [bts] using hown) (Below.refl _ _)
    simpa using this

theorem step_appSO {ops : Array Oper} {o : Oper} {a : Act} {w : World} {K : Act → World → Prop} {Q : Exit → Act → World → Prop} {E : Prop} (s x : Operand)
    (B n : Nat) (xs : List Value) (m : Nat) (zs : List Int) (hm : n + m ≤ 1099511627776)
    (ho : o.op = .call { callee := .builtin .append, args := #[s, x], argTypes := #[22, 22] }) (hgd : o.guard = none)
    (hs : ∃ g cp, a.eval s = .slice (some ⟨g, 0, none⟩) n cp ∧ w.ownsRow B 5 1 (.slice (some ⟨g, 0, none⟩) n cp) n xs)
    (hx : ∃ A c, a.eval x = .slice A m c ∧ CellsAt w A m (bts zs)) (hbase : B ≤ w.heap.size)
    (hK : ∀ g' c' w', w'.ownsRow B 5 1 (.slice (some ⟨g', 0, none⟩) (n + m) c') (n + m) (xs ++ bts zs) → Below B w w' → K (a.put o.dst (.slice (some ⟨g', 0, none⟩) (n + m) c')) w') :
    if Region.wanted o (yielded ops a.tmps) = true then Oper.wp Try.prog o a w K Q else E := by
  obtain ⟨A, c, hx, hc⟩ := hx
  cases A with
  | some ad => exact step_appS s x B n xs m zs hm ho hgd hs ⟨ad, c, hx, hc⟩ hbase hK
  | none =>
    have hw : Region.wanted o (yielded ops a.tmps) = true := by simp [Region.wanted, hgd]
    rw [if_pos hw]
    obtain ⟨g, cp, hs, hown⟩ := hs
    have hm0 : m = 0 := by
      rcases Nat.eq_zero_or_pos m with h | h
      · exact h
      · obtain ⟨b, off, hb, _⟩ := hc.2 h; cases hb
    have hz : zs = [] := by have := hc.len.out; exact List.length_eq_zero_iff.1 (by omega)
    subst hz
    refine Lib.wp_append_run w s x 22 22 ho _ _ hs hx _ _ (app_nilV c o.type w hown hm0) ?_
    subst hm0
    have := hK g cp w (by simpa [bts] using hown) (Below.refl _ _)
    simpa using this

set_option maxRecDepth 10000 in
set_option maxHeartbeats 2000000 in
theorem concat_anyO (g : Nat) (ad1 ad2 : Option Addr) (n1 n2 c1 c2 : Nat) (xs ys : List Int) (w : World) (p0 : w.cell? ⟨g, 0, none⟩ = some (.slice ad1 n1 c1)) (p1 : w.cell? ⟨g, 1, none⟩ = some (.slice ad2 n2 c2))
    (h1 : CellsAt w ad1 n1 (bts xs)) (h2 : CellsAt w ad2 n2 (bts ys)) (hn : n1 + n2 ≤ 2097152) :
    Calls Try.prog 35 #[.slice (some ⟨g, 0, none⟩) 2 2] w fun e w' => ∃ a' c', e = .returned (.slice a' (n1 + n2) c') ∧ w'.ownsRow w.heap.size 5 1 (.slice a' (n1 + n2) c') (n1 + n2) (bts (xs ++ ys)) ∧ Below w.heap.size w w' := by
  have hgA := grow_any (n1 + n2) w hn
  have cst : ((n1 + n2 : Nat) : Int) = (n1 : Int) + (n2 : Int) := by omega
  rw [cst] at hgA
  have z1 : ¬ (n1 : Int) < 0 := by omega
  have z2 : ¬ (n1 : Int) + (n2 : Int) < 0 := by omega
  have b1 : n1 ≤ 2097152 := by omega
  have b2 : n2 ≤ 2097152 := by omega
  have m1 : 0 + n1 ≤ 1099511627776 := by omega
  have m2 : n1 + n2 ≤ 1099511627776 := by omega
  clear hn cst
  go_enter Try.func35, Try.ntmps35
  go_wp2
  refine wp_loop_rounds 3 ?_
  rw [rounds_succ]
  go_wp2
  rw [rounds_succ]
  go_wp2
  rw [rounds_succ]
  go_wp2_with fail
  refine hgA.mono ?_
  clear hgA
  rintro e w1 ⟨a1, k1, rfl, o1, bb1⟩
  have q0 := keep_cell bb1 p0
  have q1 := keep_cell bb1 p1
  have hx1 := h1.below bb1
  have hs1 := bb1.size
  go_wp2
  refine wp_loop_rounds 3 ?_
  rw [rounds_succ]
  go_wp2_with (at_builtin; go_must (refine wpList_appVO (.tmp 31) (.tmp 32) w.heap.size (.slice a1 0 k1) 0 [] n1 xs m1 ?_ ?_ ?_ ?_ ?_ ?_ ?_; exact rfl; exact rfl; exact rfl; exact ⟨_, _, rfl, hx1⟩; exact o1; exact hs1; intro a2 k2 w2 o2 bb2))
  simp only [Nat.zero_add, List.nil_append] at o2
  have bA := bb1.trans bb2
  have r0 := keep_cell bA p0
  have r1 := keep_cell bA p1
  have hx2 := h2.below bA
  have hs2 := bA.size
  clear o1 hx1 q0 q1 bb1 bb2
  rw [rounds_succ]
  go_wp2_with (at_builtin; go_must (refine wpList_appVO (.tmp 31) (.tmp 32) w.heap.size (.slice a2 n1 k2) n1 (bts xs) n2 ys m2 ?_ ?_ ?_ ?_ ?_ ?_ ?_; exact rfl; exact rfl; exact rfl; exact ⟨_, _, rfl, hx2⟩; exact o2; exact hs2; intro a3 k3 w3 o3 bb3))
  rw [rounds_succ]
  go_wp2
  go_ret
  rw [← bts_append] at o3
  exact ⟨a3, k3, rfl, o3, bA.trans bb3⟩
set_option maxRecDepth 10000 in
set_option maxHeartbeats 2000000 in
theorem l2Of_nilO (ad : Option Addr) (n cap : Nat) (ss : List Int) (w : World) (h : CellsAt w ad n (bts ss)) (hb : IsB ss) (hn : n ≤ 1048576) (hcap : n ≤ cap) :
    Calls Try.prog 41 #[.slice ad n cap, .slice none 0 0] w fun e w' => ∃ a1 c1 a2 c2, e = .returned (.agg #[.int .i64 0, .int .i64 (Ch.reads ss).length, .slice a1 n c1, .slice a2 0 c2]) ∧
      w'.ownsRow w.heap.size 5 1 (.slice a1 n c1) n (bts ss) ∧ w'.ownsRow w.heap.size 5 1 (.slice a2 0 c2) 0 [] ∧ (∀ g, (Value.slice a1 n c1).ownBlock = some g → (Value.slice a2 0 c2).ownBlock ≠ some g) ∧ Below w.heap.size w w' := by
  have r1 : 5 * (Ch.reads ss).length ≤ n := Nat.le_trans (Ch.reads_le ss) (by have := Ch.used_le ss; have := h.len.out; omega)
  have b0 : Below w.heap.size w (w.alloc (.cells #[.int .i64 0, .int .i64 0, .slice none 0 0, .slice none 0 0] 29)) := (Below.refl _ _).alloc (Nat.le_refl _) _
  have m1 : 0 + n ≤ 1099511627776 := by omega
  obtain ⟨i0, hi, hz0, hz1, hz2⟩ := info_parts Try.info5
  have nilR : Ch.reads [] = [] := rfl
  have hnilC : ∀ W : World, CellsAt W none 0 (bts []) := fun W => ⟨rfl, fun h => absurd h (by simp)⟩
  go_enter Try.func41, Try.ntmps41
  go_wp2_with fail
  refine (l2Read_any ad n cap ss _ (h.below b0) hb hn hcap).mono ?_
  rintro e w1 ⟨g1, k1, rfl, _, b1⟩
  have b1A := b0.trans (b1.mono b0.size)
  have c1 := box_cell b1 0
  go_wp2_with fail
  refine (l2Read_any none 0 0 [] _ (hnilC _) (fun i => by simp) (by omega) (Nat.le_refl _)).mono ?_
  rintro e w2 ⟨g2, k2, rfl, _, b2⟩
  rw [nilR, List.length_nil]
  have b2A := b1A.trans (b2.mono b1A.size)
  have hRw : w2.heap[w.heap.size]? = some (.cells #[.int .i64 0, .int .i64 0, .slice none 0 0, .slice none 0 0] 29 (0, 0)) := (b2.block w.heap.size (by have := b1.size; simp at this; omega)).trans ((b1.block w.heap.size (by simp)).trans (heap_new' rfl))
  obtain ⟨x0, x1, x2, x3⟩ := row4 hRw
  obtain ⟨f0, f1, f2, f3⟩ := frz4 hRw
  have hc2 := h.below (b2A.alloc b2A.size (.cells #[] 5))
  have ho := empty_own w2 (w.heap.size + 1) (by have := lt_of_cell x0; omega)
  have hz : w.heap.size + 1 ≤ w2.heap.size := lt_of_cell x0
  have hz' : w.heap.size + 1 ≤ (w2.alloc (.cells #[] 5)).heap.size := by simp; omega
  have lA : w.heap.size < w.heap.size + 1 := by omega
  have lB : w.heap.size < w2.heap.size := by omega
  clear c1 b1 b2
  generalize hpp : (Ch.reads ss).length = p at *
  have hwp : IntKind.i64.wrap ((p : Int) + 0) = (p : Int) := by rw [Int.add_zero]; exact IntWalk.i64_in _ ⟨by omega, by omega⟩
  go_wp2_with (at_builtin; refine wpList_appVO (.tmp 24) (.tmp 25) (w.heap.size + 1) (.slice (some ⟨w2.heap.size, 0, none⟩) 0 0) 0 [] n ss m1 ?_ ?_ ?_ ?_ ?_ ?_ ?_; exact rfl; exact rfl; exact rfl; exact ⟨_, _, rfl, hc2⟩; exact ho; exact hz'; intro a3 k3 w3 o3 bb3; have hR3 := (bb3.block w.heap.size lA).trans ((heap_old' lB).trans hRw); obtain ⟨y0, y1, y2, y3⟩ := row4 hR3; obtain ⟨g0, g1', g2', g3⟩ := frz4 hR3; have lC := lt_of_cell y0)
  have hz3 := bb3.size
  simp at hz3
  have b3A : Below w.heap.size w w3 := (b2A.alloc b2A.size _).trans (bb3.mono (by omega))
  refine bodyPost_ret (v := .agg #[.int .i64 0, .int .i64 p, .slice a3 n k3, .slice (some ⟨w3.heap.size, 0, none⟩) 0 0]) (by simp [results, Try.results41, go_sem, lC, y0, y1, y2, y3]) rfl ⟨a3, k3, some ⟨w3.heap.size, 0, none⟩, 0, by rw [hpp], ?_, ?_, ?_, ?_⟩
  · rw [Nat.zero_add, List.nil_append] at o3
    exact owns_base (((((ownsRow_setCell_below (a := ⟨w.heap.size, 3, none⟩) (ownsRow_setCell_below (a := ⟨w.heap.size, 2, none⟩) (ownsRow_setCell_below (a := ⟨w.heap.size, 1, none⟩) (ownsRow_setCell_below (a := ⟨w.heap.size, 0, none⟩) o3 (by simp) _) (by simp) _) (by simp) _) (by simp) _)).alloc _))) (by omega)
  · have HX : ∀ X : World, X.heap.size = w3.heap.size → (X.alloc (.cells #[] 5)).ownsRow w.heap.size 5 1 (.slice (some ⟨w3.heap.size, 0, none⟩) 0 0) 0 [] := fun X hX => by
      have := empty_own X w.heap.size (by omega)
      rwa [hX] at this
    exact HX _ (by simp)
  · intro g hg hk
    simp [Value.ownBlock] at hk
    rw [Nat.zero_add] at o3
    obtain ⟨_, h2⟩ := owns_own o3 hg
    omega
  · repeat (first | with_reducible exact b3A | with_reducible refine Below.drew ?_ | with_reducible refine Below.alloc ?_ (by first | omega | (simp; done) | (simp; omega)) _ | with_reducible refine Below.setCell ?_ (by simp) _)
end Go.Proofs.Ytommekhmdmnjlaa
