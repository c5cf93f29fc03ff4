
/- One step back, of the program. -/
import Derived.Test.YtjagobcogkdfhaaUndM
import Derived.Test.YtjagobcogkdfhaaSetS
namespace Go.Proofs.Ytjagobcogkdfhaa
open Go.RowKit

theorem Try.info71 : (Try.prog.info? 71).map (fun i => (i.zero, i.size, i.bytes)) = some (some (.agg #[.int .i64 0, .int .i64 0, .int .i64 0, .bool false, .int .i64 0, .bool false, .int .i64 0]), 7, 56) := by kernel_rfl
theorem rc7_one (rs : List Ch.Rec) : ∀ u ∈ rc7 rs, u.oneCell' = true := by
  intro u hu
  unfold rc7 at hu
  obtain ⟨r, _, hr⟩ := List.mem_flatMap.1 hu
  simp only [c7, List.mem_cons, List.not_mem_nil, or_false] at hr
  rcases hr with rfl | rfl | rfl | rfl | rfl | rfl | rfl <;> rfl
/-- A record that was just made, as a list of one. -/
theorem new_rec {w : World} {r : Ch.Rec} {t : TypeId} {H : Nat} (hH : H = w.heap.size) : CellsAt (w.alloc (.cells #[.int .i64 r.kd, .int .i64 r.tx, .int .i64 r.ky, .bool r.hd, .int .i64 r.ol, .bool r.hs, .int .i64 r.nw] t)) (some ⟨H, 0, none⟩) (1 * 7) (rc7 [r]) := by
  subst hH
  refine ⟨rfl, fun _ => ⟨_, _, rfl, fun i hi => ?_⟩⟩
  rw [Nat.zero_add]
  have := cell_of_row (w.alloc (.cells #[.int .i64 r.kd, .int .i64 r.tx, .int .i64 r.ky, .bool r.hd, .int .i64 r.ol, .bool r.hs, .int .i64 r.nw] t)) _ i _ _ _ (heap_alloc_new w _)
  rw [this]
  simp [rc7, c7]
/-- One record appended to records of one's own. -/
theorem run_appRc {w : World} {B : Nat} {v : Value} {n ty : Nat} {rs : List Ch.Rec} {g c : Nat} {r : Ch.Rec} (hown : w.ownsRow B 71 7 v n (rc7 rs)) (hc : CellsAt w (some ⟨g, 0, none⟩) (1 * 7) (rc7 [r])) (hn : n ≤ 1048576) (hbase : B ≤ w.heap.size) :
    ∃ a' c' w', (Builtin.append_ #[59, 59] ty #[v, .slice (some ⟨g, 0, none⟩) 1 c]).run Try.prog w = .ok (.slice a' (n + 1) c') w' ∧ w'.ownsRow B 71 7 (.slice a' (n + 1) c') (n + 1) (rc7 (rs ++ [r])) ∧ w.grownBy w' v.ownBlock ∧
      ∀ g, (Value.slice a' (n + 1) c').ownBlock = some g → v.ownBlock = some g ∨ w.heap.size ≤ g := by
  obtain ⟨i0, hi, hz0, hz1, hz2⟩ := info_parts Try.info71
  obtain ⟨v', w', hr, h2, h3, _, h5⟩ := run_append_own_at (P := Try.prog) w B 59 ty 71 i0 _ 7 56 Try.underlying59 hi hz0 hz1 hz2 rfl (by omega) v n (rc7 rs) hown ⟨g, 0, none⟩ 1 c (rc7 [r]) hc.1 (fun j u hj => by
      have hjl : j < (rc7 [r]).length := (List.getElem?_eq_some_iff.1 hj).1
      have hl := hc.1
      obtain ⟨b, off, ha, hcc⟩ := hc.2 (by omega)
      simp only [Option.some.injEq, Addr.mk.injEq, and_true] at ha
      obtain ⟨rfl, rfl⟩ := ha
      have e : (⟨g, 0, none⟩ : Addr).add j = ⟨g, 0 + j, none⟩ := by
        unfold Addr.add
        split
        · next h0 => subst h0; rfl
        · rfl
      rw [e, hcc j (by omega), hj]) (rc7_one [r]) (by unfold maxLen; omega) (by omega) hbase
  obtain ⟨a', c', rfl⟩ := owns_shape h2
  refine ⟨a', c', w', hr, by rw [rc7_snoc]; simpa [rc7] using h2, h3, fun g hg => ?_⟩
  rcases h5 with h5 | h5
  · exact .inl (by rw [← h5]; exact hg)
  · right
    rw [h5] at hg
    simp at hg
    omega
theorem step_appRc {ops : Array Oper} {o : Oper} {a : Act} {w : World} {K : Act → World → Prop} {Q : Exit → Act → World → Prop} {E : Prop} (s x : Operand)
    (ho : o.op = .call { callee := .builtin .append, args := #[s, x], argTypes := #[59, 59] }) (hgd : o.guard = none)
    (B : Nat) (v : Value) (n : Nat) (rs : List Ch.Rec) (g c : Nat) (r : Ch.Rec) (hs : a.eval s = v) (hx : a.eval x = .slice (some ⟨g, 0, none⟩) 1 c)
    (hown : w.ownsRow B 71 7 v n (rc7 rs)) (hc : CellsAt w (some ⟨g, 0, none⟩) (1 * 7) (rc7 [r])) (hn : n ≤ 1048576) (hbase : B ≤ w.heap.size)
    (hK : ∀ a' c' w', w'.ownsRow B 71 7 (.slice a' (n + 1) c') (n + 1) (rc7 (rs ++ [r])) → w.grownBy w' v.ownBlock → (∀ g, (Value.slice a' (n + 1) c').ownBlock = some g → v.ownBlock = some g ∨ w.heap.size ≤ g) → K (a.put o.dst (.slice a' (n + 1) c')) w') :
    if Region.wanted o (yielded ops a.tmps) = true then Oper.wp Try.prog o a w K Q else E := by
  have hw : Region.wanted o (yielded ops a.tmps) = true := by simp [Region.wanted, hgd]
  rw [if_pos hw]
  obtain ⟨a', c', w', hr, h2, h3, h4⟩ := run_appRc (ty := o.type) (c := c) hown hc hn hbase
  exact Lib.wp_append_run w s x _ _ ho _ _ hs hx _ _ hr (hK a' c' w' h2 h3 h4)
theorem wpList_appRc {ops : Array Oper} {rest : List Oper} {o : Oper} {a : Act} {w : World} {Q : Exit → Act → World → Prop} (s x : Operand)
    (ho : o.op = .call { callee := .builtin .append, args := #[s, x], argTypes := #[59, 59] }) (hgd : o.guard = none)
    (B : Nat) (v : Value) (n : Nat) (rs : List Ch.Rec) (g c : Nat) (r : Ch.Rec) (hs : a.eval s = v) (hx : a.eval x = .slice (some ⟨g, 0, none⟩) 1 c)
    (hown : w.ownsRow B 71 7 v n (rc7 rs)) (hc : CellsAt w (some ⟨g, 0, none⟩) (1 * 7) (rc7 [r])) (hn : n ≤ 1048576) (hbase : B ≤ w.heap.size)
    (hK : ∀ a' c' w', w'.ownsRow B 71 7 (.slice a' (n + 1) c') (n + 1) (rc7 (rs ++ [r])) → w.grownBy w' v.ownBlock → (∀ g, (Value.slice a' (n + 1) c').ownBlock = some g → v.ownBlock = some g ∨ w.heap.size ≤ g) → wpList Try.prog ops Q rest (a.put o.dst (.slice a' (n + 1) c')) w') :
    wpList Try.prog ops Q (o :: rest) a w := by
  obtain ⟨a', c', w', hr, h2, h3, h4⟩ := run_appRc (ty := o.type) (c := c) hown hc hn hbase
  exact Lib.wpList_append_run w hgd s x _ _ ho _ _ hs hx _ _ hr (hK a' c' w' h2 h3 h4)

theorem rowThree {W : World} {g : Nat} {t : TypeId} {u0 u1 u2 : Value} (h : W.heap[g]? = some (.cells #[u0, u1, u2] t (0, 0))) :
    W.cell? ⟨g, 0, none⟩ = some u0 ∧ W.cell? ⟨g, 1, none⟩ = some u1 ∧ W.cell? ⟨g, 2, none⟩ = some u2 ∧ W.frozen? ⟨g, 0, none⟩ = false ∧ W.frozen? ⟨g, 1, none⟩ = false ∧ W.frozen? ⟨g, 2, none⟩ = false :=
  ⟨cell_of_row _ _ _ _ _ _ h, cell_of_row _ _ _ _ _ _ h, cell_of_row _ _ _ _ _ _ h, by simp [World.frozen?, h], by simp [World.frozen?, h], by simp [World.frozen?, h]⟩

/-- What a step back leaves. -/
def BackPost (tx c : Int) (ls : List (List Ch.Row)) (rs : List Ch.Rec) (b : Ch.Bf) (B : Nat) (rv : Value) (w : World) (e : Ending) (w' : World) : Prop :=
  ∃ a' m' c' r' p' q', e = .returned (.agg #[.int .i64 (Ch.backOne tx (c, ls, rs) b).1, .slice a' m' c', .slice r' p' q']) ∧ OwnU w' B (.slice a' m' c') m' (Ch.backOne tx (c, ls, rs) b).2.1 (.slice r' p' q') p' (Ch.backOne tx (c, ls, rs) b).2.2 ∧ w.grownBy w' rv.ownBlock ∧ (∀ g, (Value.slice r' p' q').ownBlock = some g → rv.ownBlock = some g ∨ w.heap.size ≤ g)

theorem grown_of_below {w w' : World} (h : Below w.heap.size w w') (row : Option Nat) : w.grownBy w' row := ⟨h.os, h.tape, h.output, h.size, fun k hk _ => h.block k hk⟩

set_option linter.unusedSimpArgs false in
set_option maxRecDepth 20000 in
set_option maxHeartbeats 4000000 in
theorem setBack_code (c tx : Int) (bk : Int) (bh : Bool) (bv : Int) (a r : Option Addr) (m cap p q B : Nat) (ls : List (List Ch.Row)) (rs : List Ch.Rec) (w : World) (U : OwnU w B (.slice a m cap) m ls (.slice r p q) p rs) (hc : (c != 0) = true) :
    Calls Try.prog 174 #[.agg #[.int .i64 c, .slice a m cap, .slice r p q], .int .i64 tx, .agg #[.int .i64 bk, .bool bh, .int .i64 bv]] w (BackPost tx c ls rs ⟨bk, bh, bv⟩ B (.slice r p q) w) := by
  unfold BackPost
  rw [Ch.back_code hc]
  go_enter Try.func174, Try.ntmps174
  go_wp2
  have k : Below w.heap.size w (((w.alloc (.cells #[.int .i64 c, .slice a m cap, .slice r p q] 61)).alloc (.cells #[.int .i64 bk, .bool bh, .int .i64 bv] 64)).alloc (.cells #[.int .i64 c, .slice a m cap, .slice r p q] 61)) := (((Below.refl _ _).alloc (Nat.le_refl _) _).alloc (by simp) _).alloc (by simp; omega) _
  exact bodyPost_ret (v := .agg #[.int .i64 c, .slice a m cap, .slice r p q]) (by simp [results, Try.results174, go_sem]) rfl ⟨a, m, cap, r, p, q, rfl, U.below k, grown_of_below k _, fun g hg => .inl hg⟩
set_option linter.unusedSimpArgs false in
set_option maxRecDepth 20000 in
set_option maxHeartbeats 4000000 in
theorem setBack_many (tx : Int) (bk : Int) (bh : Bool) (bv : Int) (a r : Option Addr) (m cap p q B : Nat) (ls : List (List Ch.Row)) (rs : List Ch.Rec) (w : World) (U : OwnU w B (.slice a m cap) m ls (.slice r p q) p rs) (hB : B ≤ w.heap.size) (hs : Ch.lvSize ls ≤ 1048576) {c2 : Int} (hX : Ch.setR ls tx bk bh bv = (c2, [], [])) (hc : (c2 != 0) = true) :
    Calls Try.prog 174 #[.agg #[.int .i64 0, .slice a m cap, .slice r p q], .int .i64 tx, .agg #[.int .i64 bk, .bool bh, .int .i64 bv]] w (BackPost tx 0 ls rs ⟨bk, bh, bv⟩ B (.slice r p q) w) := by
  unfold BackPost
  rw [Ch.back_many (b := ⟨bk, bh, bv⟩) (by rw [hX]) hc]
  have b0 : Below w.heap.size w (((w.alloc (.cells #[.int .i64 0, .slice a m cap, .slice r p q] 61)).alloc (.cells #[.int .i64 bk, .bool bh, .int .i64 bv] 64)).alloc (.cells #[.int .i64 0, .slice none 0 0, .slice none 0 0] 61)) := (((Below.refl _ _).alloc (Nat.le_refl _) _).alloc (by simp) _).alloc (by simp; omega) _
  have SI := implSetValue_any a m cap tx bk bh bv ls _ ((U.below b0).lv hs) hs
  have hD0 := block_below (((Below.refl _ _).alloc (Nat.le_refl _) (.cells #[.int .i64 bk, .bool bh, .int .i64 bv] 64)).alloc (by simp) (.cells #[.int .i64 0, .slice none 0 0, .slice none 0 0] 61)) (heap_alloc_new w (.cells #[.int .i64 0, .slice a m cap, .slice r p q] 61))
  have hR0 := heap_alloc_new ((w.alloc (.cells #[.int .i64 0, .slice a m cap, .slice r p q] 61)).alloc (.cells #[.int .i64 bk, .bool bh, .int .i64 bv] 64)) (.cells #[.int .i64 0, .slice none 0 0, .slice none 0 0] 61)
  rw [show ((w.alloc (.cells #[.int .i64 0, .slice a m cap, .slice r p q] 61)).alloc (.cells #[.int .i64 bk, .bool bh, .int .i64 bv] 64)).heap.size = w.heap.size + 2 by simp] at hR0
  rw [hX] at SI
  go_enter Try.func174, Try.ntmps174
  go_wp2_with fail
  refine SI.mono ?_
  rintro e w1 ⟨a2, m2, c3, r2, p2, q2, rfl, U2, b1⟩
  have hR1 := block_below b1 hR0
  have z1 := b1.size
  simp at z1
  obtain ⟨x0, x1, x2, f0, f1, f2⟩ := rowThree hR1
  have hz := lt_of_cell x0
  have bE := b0.trans (b1.mono b0.size)
  have hzb : w.heap.size + 2 < w1.heap.size + 1 := by omega
  clear SI hD0 hR0 hR1
  go_wp2
  refine bodyPost_ret (v := .agg #[.int .i64 c2, .slice a2 m2 c3, .slice r2 p2 q2]) (by simp [results, Try.results174, go_sem, x0, x1, x2, hz]) rfl ⟨a2, m2, c3, r2, p2, q2, rfl, ?_, ?_, fun g hg => ?_⟩
  · obtain ⟨vs, lo, hi, h1, h2, h3, h4, h5, h6, h7⟩ := U2
    simp at h3
    have hlow : w.heap.size + 2 < w.heap.size + 3 := by omega
    have hBB : B ≤ w.heap.size + 3 := by omega
    have h1' : OwnV w1 (w.heap.size + 3) (.slice a2 m2 c3) m2 vs [] := by simpa using h1
    have h2' : w1.ownsRow (w.heap.size + 3) 71 7 (.slice r2 p2 q2) p2 (rc7 []) := by simpa using h2
    have h1s := ((h1'.store3 (q := w.heap.size + 2) (o := 0) hlow (.int .i64 c2)).store3 (q := w.heap.size + 2) (o := 1) hlow (.slice a2 m2 c3)).store3 (q := w.heap.size + 2) (o := 2) hlow (.slice r2 p2 q2)
    have h2s := ownsRow_setCell_below (ownsRow_setCell_below (ownsRow_setCell_below h2' (a := ⟨w.heap.size + 2, 0, none⟩) hlow (.int .i64 c2)) (a := ⟨w.heap.size + 2, 1, none⟩) hlow (.slice a2 m2 c3)) (a := ⟨w.heap.size + 2, 2, none⟩) hlow (.slice r2 p2 q2)
    have kk := fun W : World => (Below.refl W.heap.size W).alloc (Nat.le_refl _) (.cells #[.int .i64 c2, .slice a2 m2 c3, .slice r2 p2 q2] 61)
    exact (OwnU.below ⟨vs, lo, hi, h1s, h2s, h3, by simpa using h4, h5, h6, h7⟩ (kk _)).base hBB
  · refine grown_of_below (Below.alloc (((bE.setCell (p := ⟨w.heap.size + 2, 0, none⟩) (Nat.le_add_right _ _) _).setCell (p := ⟨w.heap.size + 2, 1, none⟩) (Nat.le_add_right _ _) _).setCell (p := ⟨w.heap.size + 2, 2, none⟩) (Nat.le_add_right _ _) _) (by simp; omega) _) _
  · obtain ⟨vs, lo, hi, h1, h2, _⟩ := U2
    have := (owns_lt h2 g hg).1
    simp at this
    exact .inr (by omega)

set_option linter.unusedSimpArgs false in
set_option maxRecDepth 20000 in
set_option maxHeartbeats 4000000 in
theorem setBack_ok (tx : Int) (bk : Int) (bh : Bool) (bv : Int) (a r : Option Addr) (m cap p q B : Nat) (ls : List (List Ch.Row)) (rs : List Ch.Rec) (w : World) (U : OwnU w B (.slice a m cap) m ls (.slice r p q) p rs) (hB : B ≤ w.heap.size) (hs : Ch.lvSize ls ≤ 1048576) (hp : p ≤ 1048576) {l2 : List (List Ch.Row)} {rh : Bool} {ro : Int} (hX : Ch.setR ls tx bk bh bv = (0, l2, [⟨2, tx, bk, rh, ro, bh, bv⟩])) (hX3 : Ch.setRec 3 ls tx bk bh bv = ⟨3, tx, bk, rh, ro, bh, bv⟩) :
    Calls Try.prog 174 #[.agg #[.int .i64 0, .slice a m cap, .slice r p q], .int .i64 tx, .agg #[.int .i64 bk, .bool bh, .int .i64 bv]] w (BackPost tx 0 ls rs ⟨bk, bh, bv⟩ B (.slice r p q) w) := by
  unfold BackPost
  rw [Ch.back_ok (b := ⟨bk, bh, bv⟩) (by rw [hX])]
  simp only
  rw [hX3]
  obtain ⟨vs0, lo0, hi0, g1, g2, g3, g4, g5, g6, g7⟩ := U
  have U : OwnU w B (.slice a m cap) m ls (.slice r p q) p rs := ⟨vs0, lo0, hi0, g1, g2, g3, g4, g5, g6, g7⟩
  have b0 : Below w.heap.size w (((w.alloc (.cells #[.int .i64 0, .slice a m cap, .slice r p q] 61)).alloc (.cells #[.int .i64 bk, .bool bh, .int .i64 bv] 64)).alloc (.cells #[.int .i64 0, .slice none 0 0, .slice none 0 0] 61)) := (((Below.refl _ _).alloc (Nat.le_refl _) _).alloc (by simp) _).alloc (by simp; omega) _
  have SI := implSetValue_any a m cap tx bk bh bv ls _ ((U.below b0).lv hs) hs
  have hD0 := block_below (((Below.refl _ _).alloc (Nat.le_refl _) (.cells #[.int .i64 bk, .bool bh, .int .i64 bv] 64)).alloc (by simp) (.cells #[.int .i64 0, .slice none 0 0, .slice none 0 0] 61)) (heap_alloc_new w (.cells #[.int .i64 0, .slice a m cap, .slice r p q] 61))
  have hR0 := heap_alloc_new ((w.alloc (.cells #[.int .i64 0, .slice a m cap, .slice r p q] 61)).alloc (.cells #[.int .i64 bk, .bool bh, .int .i64 bv] 64)) (.cells #[.int .i64 0, .slice none 0 0, .slice none 0 0] 61)
  rw [show ((w.alloc (.cells #[.int .i64 0, .slice a m cap, .slice r p q] 61)).alloc (.cells #[.int .i64 bk, .bool bh, .int .i64 bv] 64)).heap.size = w.heap.size + 2 by simp] at hR0
  rw [hX] at SI ⊢
  simp only at SI ⊢
  clear hX hX3 g1 g3 g4 g5 g6 g7
  have K2 := owns_lt g2
  go_enter Try.func174, Try.ntmps174
  go_wp2_with fail
  refine SI.mono ?_
  rintro e w1 ⟨a2, m2, c2, r2, p2, q2, rfl, U2, b1⟩
  have hp2 : p2 = 1 := U2.len.2
  subst hp2
  obtain ⟨b, off, rfl, v0, v1, v2, v3, v4, v5, v6⟩ := U2.rc.rec (k := 0) (by omega)
  simp only [Nat.zero_mul, Nat.add_zero, List.getD_cons_zero] at v0 v1 v2 v3 v4 v5 v6
  have hvb := lt_of_cell v0
  have hR1 := block_below b1 hR0
  have hD1 := block_below b1 hD0
  have z1 := b1.size
  simp at z1
  have bE := b0.trans (b1.mono b0.size)
  have hz0 : w.heap.size < w1.heap.size := by omega
  have hz2 : w.heap.size + 2 < w1.heap.size := by omega
  have hn0 : ¬ w.heap.size = w1.heap.size := by omega
  clear SI hD0 hR0
  have kS : Below w1.heap.size w1 ((w1.alloc (.cells #[.int .i64 0, .slice a2 m2 c2, .slice (some ⟨b, off, none⟩) 1 q2] 61)).alloc (.cells #[.int .i64 3, .int .i64 tx, .int .i64 bk, .bool rh, .int .i64 ro, .bool bh, .int .i64 bv] 71)) := ((Below.refl _ _).alloc (Nat.le_refl _) _).alloc (by simp) _
  have s1 : ((w1.alloc (.cells #[.int .i64 0, .slice a2 m2 c2, .slice (some ⟨b, off, none⟩) 1 q2] 61)).alloc (.cells #[.int .i64 3, .int .i64 tx, .int .i64 bk, .bool rh, .int .i64 ro, .bool bh, .int .i64 bv] 71)).cell? ⟨w1.heap.size, 1, none⟩ = some (.slice a2 m2 c2) := keep_cell ((Below.refl _ _).alloc (Nat.le_refl _) _) (by simp [go_sem])
  obtain ⟨⟨k0, k1, k2, k3, k4, k5, k6⟩, _⟩ := rowSeven (heap_alloc_new (w1.alloc (.cells #[.int .i64 0, .slice a2 m2 c2, .slice (some ⟨b, off, none⟩) 1 q2] 61)) (.cells #[.int .i64 3, .int .i64 tx, .int .i64 bk, .bool rh, .int .i64 ro, .bool bh, .int .i64 bv] 71))
  rw [show (w1.alloc (.cells #[.int .i64 0, .slice a2 m2 c2, .slice (some ⟨b, off, none⟩) 1 q2] 61)).heap.size = w1.heap.size + 1 by simp] at k0 k1 k2 k3 k4 k5 k6
  have d2 := keep_cell kS (rowThree hD1).2.2.1
  have kD : Below w1.heap.size w1 ((w1.alloc (.cells #[.int .i64 0, .slice a2 m2 c2, .slice (some ⟨b, off, none⟩) 1 q2] 61)).alloc (.cells #[.int .i64 3, .int .i64 tx, .int .i64 bk, .bool rh, .int .i64 ro, .bool bh, .int .i64 bv] 71)).drew := kS.drew
  have zV : ((w1.alloc (.cells #[.int .i64 0, .slice a2 m2 c2, .slice (some ⟨b, off, none⟩) 1 q2] 61)).alloc (.cells #[.int .i64 3, .int .i64 tx, .int .i64 bk, .bool rh, .int .i64 ro, .bool bh, .int .i64 bv] 71)).drew.heap.size = w1.heap.size + 2 := by simp [World.drew]
  go_wp2
  refine wp_region_noPanic ?_
  refine wp_region_held_drew (S := fun W' => W'.cell? ⟨w1.heap.size, 1, none⟩ = some (.slice a2 m2 c2) ∧ W'.cell? ⟨w.heap.size, 2, none⟩ = some (.slice r p q) ∧ W'.cell? ⟨w1.heap.size + 1, 0, none⟩ = some (.int .i64 3) ∧ W'.cell? ⟨w1.heap.size + 1, 1, none⟩ = some (.int .i64 tx) ∧ W'.cell? ⟨w1.heap.size + 1, 2, none⟩ = some (.int .i64 bk) ∧ W'.cell? ⟨w1.heap.size + 1, 3, none⟩ = some (.bool rh) ∧ W'.cell? ⟨w1.heap.size + 1, 4, none⟩ = some (.int .i64 ro) ∧ W'.cell? ⟨w1.heap.size + 1, 5, none⟩ = some (.bool bh) ∧ W'.cell? ⟨w1.heap.size + 1, 6, none⟩ = some (.int .i64 bv)) (by kernel_rfl) (⟨s1, d2, k0, k1, k2, k3, k4, k5, k6⟩) (fun hH => ?_)
  generalize ((w1.alloc (.cells #[.int .i64 0, .slice a2 m2 c2, .slice (some ⟨b, off, none⟩) 1 q2] 61)).alloc (.cells #[.int .i64 3, .int .i64 tx, .int .i64 bk, .bool rh, .int .i64 ro, .bool bh, .int .i64 bv] 71)).drew = V at *
  clear s1 d2 k0 k1 k2 k3 k4 k5 k6 kS
  have kN : Below V.heap.size V (V.alloc (.cells #[.int .i64 3, .int .i64 tx, .int .i64 bk, .bool rh, .int .i64 ro, .bool bh, .int .i64 bv] 71)) := (Below.refl _ _).alloc (Nat.le_refl _) _
  have bV := bE.trans (kD.mono bE.size)
  have bN := bV.trans (kN.mono bV.size)
  have oN := owns_below g2 bN
  have hC := new_rec (w := V) (r := ⟨3, tx, bk, rh, ro, bh, bv⟩) (t := 71) (H := w1.heap.size + 2) zV.symm
  have hb3 : B ≤ (V.alloc (.cells #[.int .i64 3, .int .i64 tx, .int .i64 bk, .bool rh, .int .i64 ro, .bool bh, .int .i64 bv] 71)).heap.size := Nat.le_trans hB bN.size
  have hRN := block_below kN (block_below kD hR1)
  have U2N := (U2.below kD).below kN
  have ne0 : (Value.slice r p q).ownBlock ≠ some w.heap.size := fun e => by have := (K2 _ e).2; omega
  have ne1 : (Value.slice r p q).ownBlock ≠ some w1.heap.size := fun e => by have := (K2 _ e).2; omega
  have ne2 : (Value.slice r p q).ownBlock ≠ some (w1.heap.size + 1) := fun e => by have := (K2 _ e).2; omega
  have ne3 : (Value.slice r p q).ownBlock ≠ some (w.heap.size + 2) := fun e => by have := (K2 _ e).2; omega
  refine hTake (i := 0) (v := ?_) rfl (by kernel_rfl) (by kernel_rfl) (by kernel_rfl) (by rfl) ?_ hH ?_
  rotate_left
  · intro W hW; (try dsimp only at hW); go_simp <;> with_reducible rfl
  simp only [Act.put, List.setIfInBounds_toArray, List.set_cons_zero, List.set_cons_succ]
  refine hTake (i := 1) (v := ?_) rfl (by kernel_rfl) (by kernel_rfl) (by kernel_rfl) (by rfl) ?_ hH ?_
  rotate_left
  · intro W hW; (try dsimp only at hW); go_simp <;> with_reducible rfl
  simp only [Act.put, List.setIfInBounds_toArray, List.set_cons_zero, List.set_cons_succ]
  refine hTake (i := 2) (v := ?_) rfl (by kernel_rfl) (by kernel_rfl) (by kernel_rfl) (by rfl) ?_ hH ?_
  rotate_left
  · intro W hW; (try dsimp only at hW); go_simp <;> with_reducible rfl
  simp only [Act.put, List.setIfInBounds_toArray, List.set_cons_zero, List.set_cons_succ]
  refine hTake (i := 3) (v := ?_) rfl (by kernel_rfl) (by kernel_rfl) (by kernel_rfl) (by rfl) ?_ hH ?_
  rotate_left
  · intro W hW; (try dsimp only at hW); go_simp <;> with_reducible rfl
  simp only [Act.put, List.setIfInBounds_toArray, List.set_cons_zero, List.set_cons_succ]
  refine hTake (i := 4) (v := ?_) rfl (by kernel_rfl) (by kernel_rfl) (by kernel_rfl) (by rfl) ?_ hH ?_
  rotate_left
  · intro W hW; (try dsimp only at hW); go_simp <;> with_reducible rfl
  simp only [Act.put, List.setIfInBounds_toArray, List.set_cons_zero, List.set_cons_succ]
  refine wpAnyH_ready (rs := [5]) (by kernel_rfl) (by simp) ?_
  refine AllReadyH.cons rfl (fun K hK => ?_) AllReadyH.nil
  go_simp
  refine hK.out _ _ ?_ (fun hH => ?_)
  · exact ⟨keep_cell kN hH.1, keep_cell kN hH.2.1, keep_cell kN hH.2.2.1, keep_cell kN hH.2.2.2.1, keep_cell kN hH.2.2.2.2.1, keep_cell kN hH.2.2.2.2.2.1, keep_cell kN hH.2.2.2.2.2.2.1, keep_cell kN hH.2.2.2.2.2.2.2.1, keep_cell kN hH.2.2.2.2.2.2.2.2⟩
  clear hK K
  refine wpAnyH_ready (rs := [6]) (by kernel_rfl) (by simp) ?_
  refine AllReadyH.cons rfl (fun K hK => ?_) AllReadyH.nil
  refine step_appRc (.tmp 35) (.tmp 37) rfl rfl B (.slice r p q) p rs (w1.heap.size + 2) 1 ⟨3, tx, bk, rh, ro, bh, bv⟩ rfl rfl oN hC hp hb3 ?_
  intro a5 c5 w5 own5 gr5 at5
  have hR5 := block_grown gr5 hRN ne3
  obtain ⟨x0, x1, x2, f0, f1, f2⟩ := rowThree hR5
  have hz5 := lt_of_cell x0
  refine hK.out _ _ ⟨grown_cell gr5 hH.1 ne1, grown_cell gr5 hH.2.1 ne0, grown_cell gr5 hH.2.2.1 ne2, grown_cell gr5 hH.2.2.2.1 ne2, grown_cell gr5 hH.2.2.2.2.1 ne2, grown_cell gr5 hH.2.2.2.2.2.1 ne2, grown_cell gr5 hH.2.2.2.2.2.2.1 ne2, grown_cell gr5 hH.2.2.2.2.2.2.2.1 ne2, grown_cell gr5 hH.2.2.2.2.2.2.2.2 ne2⟩ (fun hH => ?_)
  clear hK K
  simp only [Act.put, List.setIfInBounds_toArray, List.set_cons_zero, List.set_cons_succ]
  refine hTake (i := 7) (v := ?_) rfl (by kernel_rfl) (by kernel_rfl) (by kernel_rfl) (by rfl) ?_ hH ?_
  rotate_left
  · intro W hW; (try dsimp only at hW); go_simp <;> with_reducible rfl
  simp only [Act.put, List.setIfInBounds_toArray, List.set_cons_zero, List.set_cons_succ]
  refine wpAnyH_ready (rs := [8]) (by kernel_rfl) (by simp) ?_
  refine AllReadyH.cons rfl (fun K hK => ?_) AllReadyH.nil
  go_simp
  refine hK.out _ _ ?_ (fun hH => ?_)
  · refine ⟨?_, ?_, ?_, ?_, ?_, ?_, ?_, ?_, ?_⟩ <;> (rw [World.cell?_setCell_other _ _ _ _ (by simp <;> omega), World.cell?_setCell_other _ _ _ _ (by simp <;> omega), World.cell?_setCell_other _ _ _ _ (by simp <;> omega)]; first | exact hH.1 | exact hH.2.1 | exact hH.2.2.1 | exact hH.2.2.2.1 | exact hH.2.2.2.2.1 | exact hH.2.2.2.2.2.1 | exact hH.2.2.2.2.2.2.1 | exact hH.2.2.2.2.2.2.2.1 | exact hH.2.2.2.2.2.2.2.2)
  clear hK K
  refine wpAnyH_done (by kernel_rfl) ?_ _
  refine NoPanic.normal ?_
  have hK2 := hid K2
  have hzN := kN.size
  have hzD := kD.size
  have hlow : w.heap.size + 1 + 1 < w.heap.size + 3 := by omega
  clear hH
  go_wp2
  refine bodyPost_ret (v := .agg #[.int .i64 0, .slice a2 m2 c2, .slice a5 (p + 1) c5]) (by simp [results, Try.results174, go_sem, x0, x1, x2, hz5]) rfl ⟨a2, m2, c2, a5, p + 1, c5, rfl, ?_, ?_, fun g hg => ?_⟩
  · obtain ⟨vs, lo, hi, h1, h2, h3, h4, h5, h6, h7⟩ := U2N
    simp at h3
    obtain ⟨hl, ho, hi', hd, hd'⟩ := h1
    have h1g : OwnV w5 (w.heap.size + 3) (.slice a2 m2 c2) m2 vs l2 := by
      refine ⟨hl, owns_grown (by simpa using ho) gr5 (fun g hg hk => by have := (K2 g hk).2; have := h5 g hg; omega), fun i hlt => ?_, hd, hd'⟩
      obtain ⟨x, e1, e2⟩ := hi' i hlt
      exact ⟨x, e1, owns_grown (by simpa using e2) gr5 (fun g hg hk => by have := (K2 g hk).2; have := h6 i x g e1 hg; omega)⟩
    have h1s := ((h1g.store3 (q := w.heap.size + 1 + 1) (o := 0) hlow (.int .i64 0)).store3 (q := w.heap.size + 1 + 1) (o := 1) hlow (.slice a2 m2 c2)).store3 (q := w.heap.size + 1 + 1) (o := 2) hlow (.slice a5 (p + 1) c5)
    have hne : ∀ g, (Value.slice a5 (p + 1) c5).ownBlock = some g → g ≠ w.heap.size + 1 + 1 := fun g hg => by
      rcases at5 g hg with h | h
      · have := (K2 g h).2; omega
      · omega
    have h2s := owns_set (o := 2) (owns_set (o := 1) (owns_set (o := 0) own5 hne (.int .i64 0)) hne (.slice a2 m2 c2)) hne (.slice a5 (p + 1) c5)
    refine ⟨vs, lo, hi, h1s.base (by omega), h2s, by omega, by have := gr5.size; simp; omega, h5, h6, fun g hg => ?_⟩
    rcases at5 g hg with h | h
    · have := (K2 g h).2; exact .inl (by omega)
    · exact .inr (by omega)
  · have bG := bN.size
    refine ⟨gr5.os.trans bN.os, gr5.tape.trans bN.tape, gr5.output.trans bN.output, by have := gr5.size; simp; omega, fun j hj hne => ?_⟩
    have e1 := (gr5.block j (by omega) hne).trans (bN.block j hj)
    rw [Below.heap_setCell _ _ _ _ (by show j ≠ w.heap.size + 1 + 1; omega), Below.heap_setCell _ _ _ _ (by show j ≠ w.heap.size + 1 + 1; omega), Below.heap_setCell _ _ _ _ (by show j ≠ w.heap.size + 1 + 1; omega)]
    exact e1
  · rcases at5 g hg with h | h
    · exact .inl h
    · exact .inr (by omega)

theorem setBack_any (c : Int) (tx : Int) (bk : Int) (bh : Bool) (bv : Int) (a r : Option Addr) (m cap p q B : Nat) (ls : List (List Ch.Row)) (rs : List Ch.Rec) (w : World) (U : OwnU w B (.slice a m cap) m ls (.slice r p q) p rs) (hB : B ≤ w.heap.size) (hs : Ch.lvSize ls ≤ 1048576) (hp : p ≤ 1048576) :
    Calls Try.prog 174 #[.agg #[.int .i64 c, .slice a m cap, .slice r p q], .int .i64 tx, .agg #[.int .i64 bk, .bool bh, .int .i64 bv]] w (BackPost tx c ls rs ⟨bk, bh, bv⟩ B (.slice r p q) w) := by
  by_cases hc : c = 0
  · subst hc
    by_cases hx : (Ch.setR ls tx bk bh bv).1 = 0
    · refine setBack_ok tx bk bh bv a r m cap p q B ls rs w U hB hs hp (l2 := (Ch.setR ls tx bk bh bv).2.1) (rh := (Ch.bf bk (Ch.has ls bk)).h) (ro := (Ch.bf bk (Ch.has ls bk)).v) ?_ rfl
      have h2 := Ch.setR_rec hx
      generalize Ch.setR ls tx bk bh bv = X at *
      obtain ⟨x1, x2, x3⟩ := X
      simp only at hx h2
      subst hx h2
      rfl
    · refine setBack_many tx bk bh bv a r m cap p q B ls rs w U hB hs (c2 := (Ch.setR ls tx bk bh bv).1) ?_ (by simpa using hx)
      by_cases hf : Ch.setF ls tx [⟨bk, bh, bv⟩] = 0
      · by_cases hm : (Ch.setLs ls bk bh bv).1 = 0
        · rw [Ch.setR_ok hf hm] at hx; exact absurd rfl hx
        · rw [Ch.setR_many hf rfl (by simpa using hm)]
      · rw [Ch.setR_code rfl (by simpa using hf)]
  · exact setBack_code c tx bk bh bv a r m cap p q B ls rs w U (by simpa using hc)
end Go.Proofs.Ytjagobcogkdfhaa
