/- Several texts in one: BckI, BckD, BckT. -/
import Derived.Test.YtjagobcogkdfhaaUndM
import Derived.Test.YtjagobcogkdfhaaSetS
import Derived.Defers
import Derived.Recover


/- One step back, of the program. -/
namespace Go.Proofs.Ytjagobcogkdfhaa
open Go.RowKit

theorem Try.info71 : (Try.prog.info? 71).map (fun i => (i.zero, i.size, i.bytes)) = some (some (.agg #[.int .i64 0, .int .i64 0, .int .i64 0, .bool false, .int .i64 0, .bool false, .int .i64 0]), 7, 56) := by kernel_rfl
theorem rc7_one (rs : List Ch.Rec) : ∀ u ∈ rc7 rs, u.oneCell' = true := by
  intro u hu
  unfold rc7 at hu
  obtain ⟨r, _, hr⟩ := List.mem_flatMap.1 hu
  simp only [c7, List.mem_cons, List.not_mem_nil, or_false] at hr
  rcases hr with rfl | rfl | rfl | rfl | rfl | rfl | rfl <;> rfl
/-- A record that was just made, as a list of one. -/
theorem new_rec {w : World} {r : Ch.Rec} {t : TypeId} {H : Nat} (hH : H = w.heap.size) : CellsAt (w.alloc (.cells #[.int .i64 r.kd, .int .i64 r.tx, .int .i64 r.ky, .bool r.hd, .int .i64 r.ol, .bool r.hs, .int .i64 r.nw] t)) (some ⟨H, 0, none⟩) (1 * 7) (rc7 [r]) := by
  subst hH
  refine ⟨rfl, fun _ => ⟨_, _, rfl, fun i hi => ?_⟩⟩
  rw [Nat.zero_add]
  have := cell_of_row (w.alloc (.cells #[.int .i64 r.kd, .int .i64 r.tx, .int .i64 r.ky, .bool r.hd, .int .i64 r.ol, .bool r.hs, .int .i64 r.nw] t)) _ i _ _ _ (heap_alloc_new w _)
  rw [this]
  simp [rc7, c7]
/-- One record appended to records of one's own. -/
theorem run_appRc {w : World} {B : Nat} {v : Value} {n ty : Nat} {rs : List Ch.Rec} {g c : Nat} {r : Ch.Rec} (hown : w.ownsRow B 71 7 v n (rc7 rs)) (hc : CellsAt w (some ⟨g, 0, none⟩) (1 * 7) (rc7 [r])) (hn : n ≤ 1048576) (hbase : B ≤ w.heap.size) :
    ∃ a' c' w', (Builtin.append_ #[59, 59] ty #[v, .slice (some ⟨g, 0, none⟩) 1 c]).run Try.prog w = .ok (.slice a' (n + 1) c') w' ∧ w'.ownsRow B 71 7 (.slice a' (n + 1) c') (n + 1) (rc7 (rs ++ [r])) ∧ w.grownBy w' v.ownBlock ∧
      ∀ g, (Value.slice a' (n + 1) c').ownBlock = some g → v.ownBlock = some g ∨ w.heap.size ≤ g := by
  obtain ⟨i0, hi, hz0, hz1, hz2⟩ := info_parts Try.info71
  obtain ⟨v', w', hr, h2, h3, _, h5⟩ := run_append_own_at (P := Try.prog) w B 59 ty 71 i0 _ 7 56 Try.underlying59 hi hz0 hz1 hz2 rfl (by omega) v n (rc7 rs) hown ⟨g, 0, none⟩ 1 c (rc7 [r]) hc.1 (fun j u hj => by
      have hjl : j < (rc7 [r]).length := (List.getElem?_eq_some_iff.1 hj).1
      have hl := hc.1
      obtain ⟨b, off, ha, hcc⟩ := hc.2 (by omega)
      simp only [Option.some.injEq, Addr.mk.injEq, and_true] at ha
      obtain ⟨rfl, rfl⟩ := ha
      have e : (⟨g, 0, none⟩ : Addr).add j = ⟨g, 0 + j, none⟩ := by
        unfold Addr.add
        split
        · next h0 => subst h0; rfl
        · rfl
      rw [e, hcc j (by omega), hj]) (rc7_one [r]) (by unfold maxLen; omega) (by omega) hbase
  obtain ⟨a', c', rfl⟩ := owns_shape h2
  refine ⟨a', c', w', hr, by rw [rc7_snoc]; simpa [rc7] using h2, h3, fun g hg => ?_⟩
  rcases h5 with h5 | h5
  · exact .inl (by rw [← h5]; exact hg)
  · right
    rw [h5] at hg
    simp at hg
    omega
theorem step_appRc {ops : Array Oper} {o : Oper} {a : Act} {w : World} {K : Act → World → Prop} {Q : Exit → Act → World → Prop} {E : Prop} (s x : Operand)
    (ho : o.op = .call { callee := .builtin .append, args := #[s, x], argTypes := #[59, 59] }) (hgd : o.guard = none)
    (B : Nat) (v : Value) (n : Nat) (rs : List Ch.Rec) (g c : Nat) (r : Ch.Rec) (hs : a.eval s = v) (hx : a.eval x = .slice (some ⟨g, 0, none⟩) 1 c)
    (hown : w.ownsRow B 71 7 v n (rc7 rs)) (hc : CellsAt w (some ⟨g, 0, none⟩) (1 * 7) (rc7 [r])) (hn : n ≤ 1048576) (hbase : B ≤ w.heap.size)
    (hK : ∀ a' c' w', w'.ownsRow B 71 7 (.slice a' (n + 1) c') (n + 1) (rc7 (rs ++ [r])) → w.grownBy w' v.ownBlock → (∀ g, (Value.slice a' (n + 1) c').ownBlock = some g → v.ownBlock = some g ∨ w.heap.size ≤ g) → K (a.put o.dst (.slice a' (n + 1) c')) w') :
    if Region.wanted o (yielded ops a.tmps) = true then Oper.wp Try.prog o a w K Q else E := by
  have hw : Region.wanted o (yielded ops a.tmps) = true := by simp [Region.wanted, hgd]
  rw [if_pos hw]
  obtain ⟨a', c', w', hr, h2, h3, h4⟩ := run_appRc (ty := o.type) (c := c) hown hc hn hbase
  exact Lib.wp_append_run w s x _ _ ho _ _ hs hx _ _ hr (hK a' c' w' h2 h3 h4)
theorem wpList_appRc {ops : Array Oper} {rest : List Oper} {o : Oper} {a : Act} {w : World} {Q : Exit → Act → World → Prop} (s x : Operand)
    (ho : o.op = .call { callee := .builtin .append, args := #[s, x], argTypes := #[59, 59] }) (hgd : o.guard = none)
    (B : Nat) (v : Value) (n : Nat) (rs : List Ch.Rec) (g c : Nat) (r : Ch.Rec) (hs : a.eval s = v) (hx : a.eval x = .slice (some ⟨g, 0, none⟩) 1 c)
    (hown : w.ownsRow B 71 7 v n (rc7 rs)) (hc : CellsAt w (some ⟨g, 0, none⟩) (1 * 7) (rc7 [r])) (hn : n ≤ 1048576) (hbase : B ≤ w.heap.size)
    (hK : ∀ a' c' w', w'.ownsRow B 71 7 (.slice a' (n + 1) c') (n + 1) (rc7 (rs ++ [r])) → w.grownBy w' v.ownBlock → (∀ g, (Value.slice a' (n + 1) c').ownBlock = some g → v.ownBlock = some g ∨ w.heap.size ≤ g) → wpList Try.prog ops Q rest (a.put o.dst (.slice a' (n + 1) c')) w') :
    wpList Try.prog ops Q (o :: rest) a w := by
  obtain ⟨a', c', w', hr, h2, h3, h4⟩ := run_appRc (ty := o.type) (c := c) hown hc hn hbase
  exact Lib.wpList_append_run w hgd s x _ _ ho _ _ hs hx _ _ hr (hK a' c' w' h2 h3 h4)

theorem rowThree {W : World} {g : Nat} {t : TypeId} {u0 u1 u2 : Value} (h : W.heap[g]? = some (.cells #[u0, u1, u2] t (0, 0))) :
    W.cell? ⟨g, 0, none⟩ = some u0 ∧ W.cell? ⟨g, 1, none⟩ = some u1 ∧ W.cell? ⟨g, 2, none⟩ = some u2 ∧ W.frozen? ⟨g, 0, none⟩ = false ∧ W.frozen? ⟨g, 1, none⟩ = false ∧ W.frozen? ⟨g, 2, none⟩ = false :=
  ⟨cell_of_row _ _ _ _ _ _ h, cell_of_row _ _ _ _ _ _ h, cell_of_row _ _ _ _ _ _ h, by simp [World.frozen?, h], by simp [World.frozen?, h], by simp [World.frozen?, h]⟩

/-- What a step back leaves. -/
def BackPost (tx c : Int) (ls : List (List Ch.Row)) (rs : List Ch.Rec) (b : Ch.Bf) (B : Nat) (rv : Value) (w : World) (e : Ending) (w' : World) : Prop :=
  ∃ a' m' c' r' p' q', e = .returned (.agg #[.int .i64 (Ch.backOne tx (c, ls, rs) b).1, .slice a' m' c', .slice r' p' q']) ∧ OwnU w' B (.slice a' m' c') m' (Ch.backOne tx (c, ls, rs) b).2.1 (.slice r' p' q') p' (Ch.backOne tx (c, ls, rs) b).2.2 ∧ w.grownBy w' rv.ownBlock ∧ (∀ g, (Value.slice r' p' q').ownBlock = some g → rv.ownBlock = some g ∨ w.heap.size ≤ g)

theorem grown_of_below {w w' : World} (h : Below w.heap.size w w') (row : Option Nat) : w.grownBy w' row := ⟨h.os, h.tape, h.output, h.size, fun k hk _ => h.block k hk⟩

set_option linter.unusedSimpArgs false in
set_option maxRecDepth 20000 in
set_option maxHeartbeats 4000000 in
theorem setBack_code (c tx : Int) (bk : Int) (bh : Bool) (bv : Int) (a r : Option Addr) (m cap p q B : Nat) (ls : List (List Ch.Row)) (rs : List Ch.Rec) (w : World) (U : OwnU w B (.slice a m cap) m ls (.slice r p q) p rs) (hc : (c != 0) = true) :
    Calls Try.prog 174 #[.agg #[.int .i64 c, .slice a m cap, .slice r p q], .int .i64 tx, .agg #[.int .i64 bk, .bool bh, .int .i64 bv]] w (BackPost tx c ls rs ⟨bk, bh, bv⟩ B (.slice r p q) w) := by
  unfold BackPost
  rw [Ch.back_code hc]
  go_enter Try.func174, Try.ntmps174
  go_wp2
  have k : Below w.heap.size w (((w.alloc (.cells #[.int .i64 c, .slice a m cap, .slice r p q] 61)).alloc (.cells #[.int .i64 bk, .bool bh, .int .i64 bv] 64)).alloc (.cells #[.int .i64 c, .slice a m cap, .slice r p q] 61)) := (((Below.refl _ _).alloc (Nat.le_refl _) _).alloc (by simp) _).alloc (by simp; omega) _
  exact bodyPost_ret (v := .agg #[.int .i64 c, .slice a m cap, .slice r p q]) (by simp [results, Try.results174, go_sem]) rfl ⟨a, m, cap, r, p, q, rfl, U.below k, grown_of_below k _, fun g hg => .inl hg⟩
set_option linter.unusedSimpArgs false in
set_option maxRecDepth 20000 in
set_option maxHeartbeats 4000000 in
theorem setBack_many (tx : Int) (bk : Int) (bh : Bool) (bv : Int) (a r : Option Addr) (m cap p q B : Nat) (ls : List (List Ch.Row)) (rs : List Ch.Rec) (w : World) (U : OwnU w B (.slice a m cap) m ls (.slice r p q) p rs) (hB : B ≤ w.heap.size) (hs : Ch.lvSize ls ≤ 1048576) {c2 : Int} (hX : Ch.setR ls tx bk bh bv = (c2, [], [])) (hc : (c2 != 0) = true) :
    Calls Try.prog 174 #[.agg #[.int .i64 0, .slice a m cap, .slice r p q], .int .i64 tx, .agg #[.int .i64 bk, .bool bh, .int .i64 bv]] w (BackPost tx 0 ls rs ⟨bk, bh, bv⟩ B (.slice r p q) w) := by
  unfold BackPost
  rw [Ch.back_many (b := ⟨bk, bh, bv⟩) (by rw [hX]) hc]
  have b0 : Below w.heap.size w (((w.alloc (.cells #[.int .i64 0, .slice a m cap, .slice r p q] 61)).alloc (.cells #[.int .i64 bk, .bool bh, .int .i64 bv] 64)).alloc (.cells #[.int .i64 0, .slice none 0 0, .slice none 0 0] 61)) := (((Below.refl _ _).alloc (Nat.le_refl _) _).alloc (by simp) _).alloc (by simp; omega) _
  have SI := implSetValue_any a m cap tx bk bh bv ls _ ((U.below b0).lv hs) hs
  have hD0 := block_below (((Below.refl _ _).alloc (Nat.le_refl _) (.cells #[.int .i64 bk, .bool bh, .int .i64 bv] 64)).alloc (by simp) (.cells #[.int .i64 0, .slice none 0 0, .slice none 0 0] 61)) (heap_alloc_new w (.cells #[.int .i64 0, .slice a m cap, .slice r p q] 61))
  have hR0 := heap_alloc_new ((w.alloc (.cells #[.int .i64 0, .slice a m cap, .slice r p q] 61)).alloc (.cells #[.int .i64 bk, .bool bh, .int .i64 bv] 64)) (.cells #[.int .i64 0, .slice none 0 0, .slice none 0 0] 61)
  rw [show ((w.alloc (.cells #[.int .i64 0, .slice a m cap, .slice r p q] 61)).alloc (.cells #[.int .i64 bk, .bool bh, .int .i64 bv] 64)).heap.size = w.heap.size + 2 by simp] at hR0
  rw [hX] at SI
  go_enter Try.func174, Try.ntmps174
  go_wp2_with fail
  refine SI.mono ?_
  rintro e w1 ⟨a2, m2, c3, r2, p2, q2, rfl, U2, b1⟩
  have hR1 := block_below b1 hR0
  have z1 := b1.size
  simp at z1
  obtain ⟨x0, x1, x2, f0, f1, f2⟩ := rowThree hR1
  have hz := lt_of_cell x0
  have bE := b0.trans (b1.mono b0.size)
  have hzb : w.heap.size + 2 < w1.heap.size + 1 := by omega
  clear SI hD0 hR0 hR1
  go_wp2
  refine bodyPost_ret (v := .agg #[.int .i64 c2, .slice a2 m2 c3, .slice r2 p2 q2]) (by simp [results, Try.results174, go_sem, x0, x1, x2, hz]) rfl ⟨a2, m2, c3, r2, p2, q2, rfl, ?_, ?_, fun g hg => ?_⟩
  · obtain ⟨vs, lo, hi, h1, h2, h3, h4, h5, h6, h7⟩ := U2
    simp at h3
    have hlow : w.heap.size + 2 < w.heap.size + 3 := by omega
    have hBB : B ≤ w.heap.size + 3 := by omega
    have h1' : OwnV w1 (w.heap.size + 3) (.slice a2 m2 c3) m2 vs [] := by simpa using h1
    have h2' : w1.ownsRow (w.heap.size + 3) 71 7 (.slice r2 p2 q2) p2 (rc7 []) := by simpa using h2
    have h1s := ((h1'.store3 (q := w.heap.size + 2) (o := 0) hlow (.int .i64 c2)).store3 (q := w.heap.size + 2) (o := 1) hlow (.slice a2 m2 c3)).store3 (q := w.heap.size + 2) (o := 2) hlow (.slice r2 p2 q2)
    have h2s := ownsRow_setCell_below (ownsRow_setCell_below (ownsRow_setCell_below h2' (a := ⟨w.heap.size + 2, 0, none⟩) hlow (.int .i64 c2)) (a := ⟨w.heap.size + 2, 1, none⟩) hlow (.slice a2 m2 c3)) (a := ⟨w.heap.size + 2, 2, none⟩) hlow (.slice r2 p2 q2)
    have kk := fun W : World => (Below.refl W.heap.size W).alloc (Nat.le_refl _) (.cells #[.int .i64 c2, .slice a2 m2 c3, .slice r2 p2 q2] 61)
    exact (OwnU.below ⟨vs, lo, hi, h1s, h2s, h3, by simpa using h4, h5, h6, h7⟩ (kk _)).base hBB
  · refine grown_of_below (Below.alloc (((bE.setCell (p := ⟨w.heap.size + 2, 0, none⟩) (Nat.le_add_right _ _) _).setCell (p := ⟨w.heap.size + 2, 1, none⟩) (Nat.le_add_right _ _) _).setCell (p := ⟨w.heap.size + 2, 2, none⟩) (Nat.le_add_right _ _) _) (by simp; omega) _) _
  · obtain ⟨vs, lo, hi, h1, h2, _⟩ := U2
    have := (owns_lt h2 g hg).1
    simp at this
    exact .inr (by omega)

set_option linter.unusedSimpArgs false in
set_option maxRecDepth 20000 in
set_option maxHeartbeats 4000000 in
theorem setBack_ok (tx : Int) (bk : Int) (bh : Bool) (bv : Int) (a r : Option Addr) (m cap p q B : Nat) (ls : List (List Ch.Row)) (rs : List Ch.Rec) (w : World) (U : OwnU w B (.slice a m cap) m ls (.slice r p q) p rs) (hB : B ≤ w.heap.size) (hs : Ch.lvSize ls ≤ 1048576) (hp : p ≤ 1048576) {l2 : List (List Ch.Row)} {rh : Bool} {ro : Int} (hX : Ch.setR ls tx bk bh bv = (0, l2, [⟨2, tx, bk, rh, ro, bh, bv⟩])) (hX3 : Ch.setRec 3 ls tx bk bh bv = ⟨3, tx, bk, rh, ro, bh, bv⟩) :
    Calls Try.prog 174 #[.agg #[.int .i64 0, .slice a m cap, .slice r p q], .int .i64 tx, .agg #[.int .i64 bk, .bool bh, .int .i64 bv]] w (BackPost tx 0 ls rs ⟨bk, bh, bv⟩ B (.slice r p q) w) := by
  unfold BackPost
  rw [Ch.back_ok (b := ⟨bk, bh, bv⟩) (by rw [hX])]
  simp only
  rw [hX3]
  obtain ⟨vs0, lo0, hi0, g1, g2, g3, g4, g5, g6, g7⟩ := U
  have U : OwnU w B (.slice a m cap) m ls (.slice r p q) p rs := ⟨vs0, lo0, hi0, g1, g2, g3, g4, g5, g6, g7⟩
  have b0 : Below w.heap.size w (((w.alloc (.cells #[.int .i64 0, .slice a m cap, .slice r p q] 61)).alloc (.cells #[.int .i64 bk, .bool bh, .int .i64 bv] 64)).alloc (.cells #[.int .i64 0, .slice none 0 0, .slice none 0 0] 61)) := (((Below.refl _ _).alloc (Nat.le_refl _) _).alloc (by simp) _).alloc (by simp; omega) _
  have SI := implSetValue_any a m cap tx bk bh bv ls _ ((U.below b0).lv hs) hs
  have hD0 := block_below (((Below.refl _ _).alloc (Nat.le_refl _) (.cells #[.int .i64 bk, .bool bh, .int .i64 bv] 64)).alloc (by simp) (.cells #[.int .i64 0, .slice none 0 0, .slice none 0 0] 61)) (heap_alloc_new w (.cells #[.int .i64 0, .slice a m cap, .slice r p q] 61))
  have hR0 := heap_alloc_new ((w.alloc (.cells #[.int .i64 0, .slice a m cap, .slice r p q] 61)).alloc (.cells #[.int .i64 bk, .bool bh, .int .i64 bv] 64)) (.cells #[.int .i64 0, .slice none 0 0, .slice none 0 0] 61)
  rw [show ((w.alloc (.cells #[.int .i64 0, .slice a m cap, .slice r p q] 61)).alloc (.cells #[.int .i64 bk, .bool bh, .int .i64 bv] 64)).heap.size = w.heap.size + 2 by simp] at hR0
  rw [hX] at SI ⊢
  simp only at SI ⊢
  clear hX hX3 g1 g3 g4 g5 g6 g7
  have K2 := owns_lt g2
  go_enter Try.func174, Try.ntmps174
  go_wp2_with fail
  refine SI.mono ?_
  rintro e w1 ⟨a2, m2, c2, r2, p2, q2, rfl, U2, b1⟩
  have hp2 : p2 = 1 := U2.len.2
  subst hp2
  obtain ⟨b, off, rfl, v0, v1, v2, v3, v4, v5, v6⟩ := U2.rc.rec (k := 0) (by omega)
  simp only [Nat.zero_mul, Nat.add_zero, List.getD_cons_zero] at v0 v1 v2 v3 v4 v5 v6
  have hvb := lt_of_cell v0
  have hR1 := block_below b1 hR0
  have hD1 := block_below b1 hD0
  have z1 := b1.size
  simp at z1
  have bE := b0.trans (b1.mono b0.size)
  have hz0 : w.heap.size < w1.heap.size := by omega
  have hz2 : w.heap.size + 2 < w1.heap.size := by omega
  have hn0 : ¬ w.heap.size = w1.heap.size := by omega
  clear SI hD0 hR0
  have kS : Below w1.heap.size w1 ((w1.alloc (.cells #[.int .i64 0, .slice a2 m2 c2, .slice (some ⟨b, off, none⟩) 1 q2] 61)).alloc (.cells #[.int .i64 3, .int .i64 tx, .int .i64 bk, .bool rh, .int .i64 ro, .bool bh, .int .i64 bv] 71)) := ((Below.refl _ _).alloc (Nat.le_refl _) _).alloc (by simp) _
  have s1 : ((w1.alloc (.cells #[.int .i64 0, .slice a2 m2 c2, .slice (some ⟨b, off, none⟩) 1 q2] 61)).alloc (.cells #[.int .i64 3, .int .i64 tx, .int .i64 bk, .bool rh, .int .i64 ro, .bool bh, .int .i64 bv] 71)).cell? ⟨w1.heap.size, 1, none⟩ = some (.slice a2 m2 c2) := keep_cell ((Below.refl _ _).alloc (Nat.le_refl _) _) (by simp [go_sem])
  obtain ⟨⟨k0, k1, k2, k3, k4, k5, k6⟩, _⟩ := rowSeven (heap_alloc_new (w1.alloc (.cells #[.int .i64 0, .slice a2 m2 c2, .slice (some ⟨b, off, none⟩) 1 q2] 61)) (.cells #[.int .i64 3, .int .i64 tx, .int .i64 bk, .bool rh, .int .i64 ro, .bool bh, .int .i64 bv] 71))
  rw [show (w1.alloc (.cells #[.int .i64 0, .slice a2 m2 c2, .slice (some ⟨b, off, none⟩) 1 q2] 61)).heap.size = w1.heap.size + 1 by simp] at k0 k1 k2 k3 k4 k5 k6
  have d2 := keep_cell kS (rowThree hD1).2.2.1
  have kD : Below w1.heap.size w1 ((w1.alloc (.cells #[.int .i64 0, .slice a2 m2 c2, .slice (some ⟨b, off, none⟩) 1 q2] 61)).alloc (.cells #[.int .i64 3, .int .i64 tx, .int .i64 bk, .bool rh, .int .i64 ro, .bool bh, .int .i64 bv] 71)).drew := kS.drew
  have zV : ((w1.alloc (.cells #[.int .i64 0, .slice a2 m2 c2, .slice (some ⟨b, off, none⟩) 1 q2] 61)).alloc (.cells #[.int .i64 3, .int .i64 tx, .int .i64 bk, .bool rh, .int .i64 ro, .bool bh, .int .i64 bv] 71)).drew.heap.size = w1.heap.size + 2 := by simp [World.drew]
  go_wp2
  refine wp_region_noPanic ?_
  refine wp_region_held_drew (S := fun W' => W'.cell? ⟨w1.heap.size, 1, none⟩ = some (.slice a2 m2 c2) ∧ W'.cell? ⟨w.heap.size, 2, none⟩ = some (.slice r p q) ∧ W'.cell? ⟨w1.heap.size + 1, 0, none⟩ = some (.int .i64 3) ∧ W'.cell? ⟨w1.heap.size + 1, 1, none⟩ = some (.int .i64 tx) ∧ W'.cell? ⟨w1.heap.size + 1, 2, none⟩ = some (.int .i64 bk) ∧ W'.cell? ⟨w1.heap.size + 1, 3, none⟩ = some (.bool rh) ∧ W'.cell? ⟨w1.heap.size + 1, 4, none⟩ = some (.int .i64 ro) ∧ W'.cell? ⟨w1.heap.size + 1, 5, none⟩ = some (.bool bh) ∧ W'.cell? ⟨w1.heap.size + 1, 6, none⟩ = some (.int .i64 bv)) (by kernel_rfl) (⟨s1, d2, k0, k1, k2, k3, k4, k5, k6⟩) (fun hH => ?_)
  generalize ((w1.alloc (.cells #[.int .i64 0, .slice a2 m2 c2, .slice (some ⟨b, off, none⟩) 1 q2] 61)).alloc (.cells #[.int .i64 3, .int .i64 tx, .int .i64 bk, .bool rh, .int .i64 ro, .bool bh, .int .i64 bv] 71)).drew = V at *
  clear s1 d2 k0 k1 k2 k3 k4 k5 k6 kS
  have kN : Below V.heap.size V (V.alloc (.cells #[.int .i64 3, .int .i64 tx, .int .i64 bk, .bool rh, .int .i64 ro, .bool bh, .int .i64 bv] 71)) := (Below.refl _ _).alloc (Nat.le_refl _) _
  have bV := bE.trans (kD.mono bE.size)
  have bN := bV.trans (kN.mono bV.size)
  have oN := owns_below g2 bN
  have hC := new_rec (w := V) (r := ⟨3, tx, bk, rh, ro, bh, bv⟩) (t := 71) (H := w1.heap.size + 2) zV.symm
  have hb3 : B ≤ (V.alloc (.cells #[.int .i64 3, .int .i64 tx, .int .i64 bk, .bool rh, .int .i64 ro, .bool bh, .int .i64 bv] 71)).heap.size := Nat.le_trans hB bN.size
  have hRN := block_below kN (block_below kD hR1)
  have U2N := (U2.below kD).below kN
  have ne0 : (Value.slice r p q).ownBlock ≠ some w.heap.size := fun e => by have := (K2 _ e).2; omega
  have ne1 : (Value.slice r p q).ownBlock ≠ some w1.heap.size := fun e => by have := (K2 _ e).2; omega
  have ne2 : (Value.slice r p q).ownBlock ≠ some (w1.heap.size + 1) := fun e => by have := (K2 _ e).2; omega
  have ne3 : (Value.slice r p q).ownBlock ≠ some (w.heap.size + 2) := fun e => by have := (K2 _ e).2; omega
  refine hTake (i := 0) (v := ?_) rfl (by kernel_rfl) (by kernel_rfl) (by kernel_rfl) (by rfl) ?_ hH ?_
  rotate_left
  · intro W hW; (try dsimp only at hW); go_simp <;> with_reducible rfl
  simp only [Act.put, List.setIfInBounds_toArray, List.set_cons_zero, List.set_cons_succ]
  refine hTake (i := 1) (v := ?_) rfl (by kernel_rfl) (by kernel_rfl) (by kernel_rfl) (by rfl) ?_ hH ?_
  rotate_left
  · intro W hW; (try dsimp only at hW); go_simp <;> with_reducible rfl
  simp only [Act.put, List.setIfInBounds_toArray, List.set_cons_zero, List.set_cons_succ]
  refine hTake (i := 2) (v := ?_) rfl (by kernel_rfl) (by kernel_rfl) (by kernel_rfl) (by rfl) ?_ hH ?_
  rotate_left
  · intro W hW; (try dsimp only at hW); go_simp <;> with_reducible rfl
  simp only [Act.put, List.setIfInBounds_toArray, List.set_cons_zero, List.set_cons_succ]
  refine hTake (i := 3) (v := ?_) rfl (by kernel_rfl) (by kernel_rfl) (by kernel_rfl) (by rfl) ?_ hH ?_
  rotate_left
  · intro W hW; (try dsimp only at hW); go_simp <;> with_reducible rfl
  simp only [Act.put, List.setIfInBounds_toArray, List.set_cons_zero, List.set_cons_succ]
  refine hTake (i := 4) (v := ?_) rfl (by kernel_rfl) (by kernel_rfl) (by kernel_rfl) (by rfl) ?_ hH ?_
  rotate_left
  · intro W hW; (try dsimp only at hW); go_simp <;> with_reducible rfl
  simp only [Act.put, List.setIfInBounds_toArray, List.set_cons_zero, List.set_cons_succ]
  refine wpAnyH_ready (rs := [5]) (by kernel_rfl) (by simp) ?_
  refine AllReadyH.cons rfl (fun K hK => ?_) AllReadyH.nil
  go_simp
  refine hK.out _ _ ?_ (fun hH => ?_)
  · exact ⟨keep_cell kN hH.1, keep_cell kN hH.2.1, keep_cell kN hH.2.2.1, keep_cell kN hH.2.2.2.1, keep_cell kN hH.2.2.2.2.1, keep_cell kN hH.2.2.2.2.2.1, keep_cell kN hH.2.2.2.2.2.2.1, keep_cell kN hH.2.2.2.2.2.2.2.1, keep_cell kN hH.2.2.2.2.2.2.2.2⟩
  clear hK K
  refine wpAnyH_ready (rs := [6]) (by kernel_rfl) (by simp) ?_
  refine AllReadyH.cons rfl (fun K hK => ?_) AllReadyH.nil
  refine step_appRc (.tmp 35) (.tmp 37) rfl rfl B (.slice r p q) p rs (w1.heap.size + 2) 1 ⟨3, tx, bk, rh, ro, bh, bv⟩ rfl rfl oN hC hp hb3 ?_
  intro a5 c5 w5 own5 gr5 at5
  have hR5 := block_grown gr5 hRN ne3
  obtain ⟨x0, x1, x2, f0, f1, f2⟩ := rowThree hR5
  have hz5 := lt_of_cell x0
  refine hK.out _ _ ⟨grown_cell gr5 hH.1 ne1, grown_cell gr5 hH.2.1 ne0, grown_cell gr5 hH.2.2.1 ne2, grown_cell gr5 hH.2.2.2.1 ne2, grown_cell gr5 hH.2.2.2.2.1 ne2, grown_cell gr5 hH.2.2.2.2.2.1 ne2, grown_cell gr5 hH.2.2.2.2.2.2.1 ne2, grown_cell gr5 hH.2.2.2.2.2.2.2.1 ne2, grown_cell gr5 hH.2.2.2.2.2.2.2.2 ne2⟩ (fun hH => ?_)
  clear hK K
  simp only [Act.put, List.setIfInBounds_toArray, List.set_cons_zero, List.set_cons_succ]
  refine hTake (i := 7) (v := ?_) rfl (by kernel_rfl) (by kernel_rfl) (by kernel_rfl) (by rfl) ?_ hH ?_
  rotate_left
  · intro W hW; (try dsimp only at hW); go_simp <;> with_reducible rfl
  simp only [Act.put, List.setIfInBounds_toArray, List.set_cons_zero, List.set_cons_succ]
  refine wpAnyH_ready (rs := [8]) (by kernel_rfl) (by simp) ?_
  refine AllReadyH.cons rfl (fun K hK => ?_) AllReadyH.nil
  go_simp
  refine hK.out _ _ ?_ (fun hH => ?_)
  · refine ⟨?_, ?_, ?_, ?_, ?_, ?_, ?_, ?_, ?_⟩ <;> (rw [World.cell?_setCell_other _ _ _ _ (by simp <;> omega), World.cell?_setCell_other _ _ _ _ (by simp <;> omega), World.cell?_setCell_other _ _ _ _ (by simp <;> omega)]; first | exact hH.1 | exact hH.2.1 | exact hH.2.2.1 | exact hH.2.2.2.1 | exact hH.2.2.2.2.1 | exact hH.2.2.2.2.2.1 | exact hH.2.2.2.2.2.2.1 | exact hH.2.2.2.2.2.2.2.1 | exact hH.2.2.2.2.2.2.2.2)
  clear hK K
  refine wpAnyH_done (by kernel_rfl) ?_ _
  refine NoPanic.normal ?_
  have hK2 := hid K2
  have hzN := kN.size
  have hzD := kD.size
  have hlow : w.heap.size + 1 + 1 < w.heap.size + 3 := by omega
  clear hH
  go_wp2
  refine bodyPost_ret (v := .agg #[.int .i64 0, .slice a2 m2 c2, .slice a5 (p + 1) c5]) (by simp [results, Try.results174, go_sem, x0, x1, x2, hz5]) rfl ⟨a2, m2, c2, a5, p + 1, c5, rfl, ?_, ?_, fun g hg => ?_⟩
  · obtain ⟨vs, lo, hi, h1, h2, h3, h4, h5, h6, h7⟩ := U2N
    simp at h3
    obtain ⟨hl, ho, hi', hd, hd'⟩ := h1
    have h1g : OwnV w5 (w.heap.size + 3) (.slice a2 m2 c2) m2 vs l2 := by
      refine ⟨hl, owns_grown (by simpa using ho) gr5 (fun g hg hk => by have := (K2 g hk).2; have := h5 g hg; omega), fun i hlt => ?_, hd, hd'⟩
      obtain ⟨x, e1, e2⟩ := hi' i hlt
      exact ⟨x, e1, owns_grown (by simpa using e2) gr5 (fun g hg hk => by have := (K2 g hk).2; have := h6 i x g e1 hg; omega)⟩
    have h1s := ((h1g.store3 (q := w.heap.size + 1 + 1) (o := 0) hlow (.int .i64 0)).store3 (q := w.heap.size + 1 + 1) (o := 1) hlow (.slice a2 m2 c2)).store3 (q := w.heap.size + 1 + 1) (o := 2) hlow (.slice a5 (p + 1) c5)
    have hne : ∀ g, (Value.slice a5 (p + 1) c5).ownBlock = some g → g ≠ w.heap.size + 1 + 1 := fun g hg => by
      rcases at5 g hg with h | h
      · have := (K2 g h).2; omega
      · omega
    have h2s := owns_set (o := 2) (owns_set (o := 1) (owns_set (o := 0) own5 hne (.int .i64 0)) hne (.slice a2 m2 c2)) hne (.slice a5 (p + 1) c5)
    refine ⟨vs, lo, hi, h1s.base (by omega), h2s, by omega, by have := gr5.size; simp; omega, h5, h6, fun g hg => ?_⟩
    rcases at5 g hg with h | h
    · have := (K2 g h).2; exact .inl (by omega)
    · exact .inr (by omega)
  · have bG := bN.size
    refine ⟨gr5.os.trans bN.os, gr5.tape.trans bN.tape, gr5.output.trans bN.output, by have := gr5.size; simp; omega, fun j hj hne => ?_⟩
    have e1 := (gr5.block j (by omega) hne).trans (bN.block j hj)
    rw [Below.heap_setCell _ _ _ _ (by show j ≠ w.heap.size + 1 + 1; omega), Below.heap_setCell _ _ _ _ (by show j ≠ w.heap.size + 1 + 1; omega), Below.heap_setCell _ _ _ _ (by show j ≠ w.heap.size + 1 + 1; omega)]
    exact e1
  · rcases at5 g hg with h | h
    · exact .inl h
    · exact .inr (by omega)

theorem setBack_any (c : Int) (tx : Int) (bk : Int) (bh : Bool) (bv : Int) (a r : Option Addr) (m cap p q B : Nat) (ls : List (List Ch.Row)) (rs : List Ch.Rec) (w : World) (U : OwnU w B (.slice a m cap) m ls (.slice r p q) p rs) (hB : B ≤ w.heap.size) (hs : Ch.lvSize ls ≤ 1048576) (hp : p ≤ 1048576) :
    Calls Try.prog 174 #[.agg #[.int .i64 c, .slice a m cap, .slice r p q], .int .i64 tx, .agg #[.int .i64 bk, .bool bh, .int .i64 bv]] w (BackPost tx c ls rs ⟨bk, bh, bv⟩ B (.slice r p q) w) := by
  by_cases hc : c = 0
  · subst hc
    by_cases hx : (Ch.setR ls tx bk bh bv).1 = 0
    · refine setBack_ok tx bk bh bv a r m cap p q B ls rs w U hB hs hp (l2 := (Ch.setR ls tx bk bh bv).2.1) (rh := (Ch.bf bk (Ch.has ls bk)).h) (ro := (Ch.bf bk (Ch.has ls bk)).v) ?_ rfl
      have h2 := Ch.setR_rec hx
      generalize Ch.setR ls tx bk bh bv = X at *
      obtain ⟨x1, x2, x3⟩ := X
      simp only at hx h2
      subst hx h2
      rfl
    · refine setBack_many tx bk bh bv a r m cap p q B ls rs w U hB hs (c2 := (Ch.setR ls tx bk bh bv).1) ?_ (by simpa using hx)
      by_cases hf : Ch.setF ls tx [⟨bk, bh, bv⟩] = 0
      · by_cases hm : (Ch.setLs ls bk bh bv).1 = 0
        · rw [Ch.setR_ok hf hm] at hx; exact absurd rfl hx
        · rw [Ch.setR_many hf rfl (by simpa using hm)]
      · rw [Ch.setR_code rfl (by simpa using hf)]
  · exact setBack_code c tx bk bh bv a r m cap p q B ls rs w U (by simpa using hc)
end Go.Proofs.Ytjagobcogkdfhaa


/- What is put off: one deferred step, and all of them. -/
namespace Go.Proofs.Ytjagobcogkdfhaa
open Go.RowKit

/-- All blocks but R and the records' own are as they were. -/
structure KeptB (R : Nat) (rv : Value) (w w' : World) : Prop where
  os : w'.os = w.os
  tape : w'.tape = w.tape
  output : w'.output = w.output
  size : w.heap.size ≤ w'.heap.size
  block : ∀ k, k < w.heap.size → k ≠ R → some k ≠ rv.ownBlock → w'.heap[k]? = w.heap[k]?

theorem heap_three {w : World} {R : Nat} {t : TypeId} {u0 u1 u2 : Value} (h : w.heap[R]? = some (.cells #[u0, u1, u2] t (0, 0))) (v0 v1 v2 : Value) : (((w.setCell ⟨R, 0, none⟩ v0).setCell ⟨R, 1, none⟩ v1).setCell ⟨R, 2, none⟩ v2).heap[R]? = some (.cells #[v0, v1, v2] t (0, 0)) := by
  have h0 := Joins.block_setCell (i := 0) h v0
  have h1 := Joins.block_setCell (i := 1) h0 v1
  have h2 := Joins.block_setCell (i := 2) h1 v2
  simpa using h2

set_option linter.unusedSimpArgs false in
set_option maxRecDepth 20000 in
set_option maxHeartbeats 2000000 in
theorem back_deferred (R T X : Nat) (c tx bk : Int) (bh : Bool) (bv : Int) (a r : Option Addr) (m cap p q B : Nat) (ls : List (List Ch.Row)) (rs : List Ch.Rec) (u : FrameMode) (w : World)
    (hR : w.heap[R]? = some (.cells #[.int .i64 c, .slice a m cap, .slice r p q] 61 (0, 0))) (hT : w.heap[T]? = some (.cells #[.int .i64 tx] 2 (0, 0))) (hX : w.heap[X]? = some (.cells #[.int .i64 bk, .bool bh, .int .i64 bv] 64 (0, 0)))
    (U : OwnU w B (.slice a m cap) m ls (.slice r p q) p rs) (hRB : R < B) (hB : B ≤ w.heap.size) (hs : Ch.lvSize ls ≤ 1048576) (hp : p ≤ 1048576) :
    CallsD Try.prog 173 #[.pointer (some ⟨R, 0, none⟩), .pointer (some ⟨T, 0, none⟩), .pointer (some ⟨X, 0, none⟩)] u w fun e u' w' => u' = u ∧ e = .returned (.tuple #[]) ∧ ∃ a' m' c' r' p' q', w'.heap[R]? = some (.cells #[.int .i64 (Ch.backOne tx (c, ls, rs) ⟨bk, bh, bv⟩).1, .slice a' m' c', .slice r' p' q'] 61 (0, 0)) ∧ OwnU w' B (.slice a' m' c') m' (Ch.backOne tx (c, ls, rs) ⟨bk, bh, bv⟩).2.1 (.slice r' p' q') p' (Ch.backOne tx (c, ls, rs) ⟨bk, bh, bv⟩).2.2 ∧ KeptB R (.slice r p q) w w' ∧ (∀ g, (Value.slice r' p' q').ownBlock = some g → (Value.slice r p q).ownBlock = some g ∨ w.heap.size ≤ g) := by
  obtain ⟨x0, x1, x2, f0, f1, f2⟩ := rowThree hR
  obtain ⟨y0, y1, y2, _, _, _⟩ := rowThree hX
  have t0 : w.cell? ⟨T, 0, none⟩ = some (.int .i64 tx) := cell_of_row _ _ _ _ _ _ hT
  have SI := setBack_any c tx bk bh bv a r m cap p q B ls rs w U hB hs hp
  have hrR : (Value.slice r p q).ownBlock ≠ some R := by
    obtain ⟨vs, lo, hi, h1, h2, _⟩ := U
    exact fun e => by have := (owns_lt h2 R e).1; omega
  unfold BackPost at SI
  generalize Ch.backOne tx (c, ls, rs) ⟨bk, bh, bv⟩ = st at *
  go_enter_d Try.func173, Try.ntmps173
  go_wp2_with fail
  refine SI.mono ?_
  rintro e w1 ⟨a', m', c', r', p', q', rfl, U1, gr1, at1⟩
  have hR1 := block_grown gr1 hR hrR
  obtain ⟨x0, x1, x2, f0, f1, f2⟩ := rowThree hR1
  go_wp2
  refine ⟨rfl, .tuple #[], by simp [results, Try.results173, go_sem], rfl, a', m', c', r', p', q', heap_three hR1 _ _ _, ?_, ?_, at1⟩
  · obtain ⟨vs, lo, hi, h1, h2, h3, h4, h5⟩ := U1
    exact ⟨vs, lo, hi, ((h1.store3 hRB _).store3 hRB _).store3 hRB _, ownsRow_setCell_below (ownsRow_setCell_below (ownsRow_setCell_below h2 (a := ⟨R, 0, none⟩) hRB _) (a := ⟨R, 1, none⟩) hRB _) (a := ⟨R, 2, none⟩) hRB _, h3, by simpa using h4, h5⟩
  · refine ⟨gr1.os, gr1.tape, gr1.output, by simpa using gr1.size, fun k hk hne hne2 => ?_⟩
    rw [Below.heap_setCell _ _ _ _ (by exact hne), Below.heap_setCell _ _ _ _ (by exact hne), Below.heap_setCell _ _ _ _ (by exact hne)]
    exact gr1.block k hk hne2

/-- What is put off for the first k of them, the last one first. -/
def putOff (R T H : Nat) : Nat → List Deferred
  | 0 => []
  | k + 1 => { target := .fn (.func 173) #[.pointer (some ⟨R, 0, none⟩), .pointer (some ⟨T, 0, none⟩), .pointer (some ⟨H + k, 0, none⟩)], args := #[] } :: putOff R T H k

/-- All that is put off, done. -/
theorem leaves_back (B0 R T H B N : Nat) (hB0 : B0 ≤ R) (tx : Int) (ls : List (List Ch.Row)) (bs : List Ch.Bf) (hg : Ch.leavesFault ls = 0) (hN : bs.length ≤ N) (hN4 : N ≤ 1000) (hRB : R < B) (hTB : T < B) (hTR : T ≠ R) (hBH : B ≤ H) (tmps : Array Value) (Q : Ending → World → Prop) (W : World)
    (hres : ∀ w' x0 x1 x2, w'.heap[R]? = some (.cells #[x0, x1, x2] 61 (0, 0)) → (results Try.f112 tmps).run Try.prog w' = .ok (.agg #[x0, x1, x2]) w')
    (hQ : ∀ w' a m cap r p q, OwnU w' B (.slice a m cap) m (Ch.backAll tx ls bs).2.1 (.slice r p q) p (Ch.backAll tx ls bs).2.2 → Below B0 W w' → Q (.returned (.agg #[.int .i64 (Ch.backAll tx ls bs).1, .slice a m cap, .slice r p q])) w') :
    ∀ (k : Nat), k ≤ bs.length → ∀ (w : World) (a : Option Addr) (m cap : Nat) (r : Option Addr) (p q : Nat), w.heap[R]? = some (.cells #[.int .i64 (Ch.backAll tx ls (bs.drop k)).1, .slice a m cap, .slice r p q] 61 (0, 0)) → w.heap[T]? = some (.cells #[.int .i64 tx] 2 (0, 0)) →
      (∀ i, i < k → w.heap[H + i]? = some (.cells #[.int .i64 (bs.getD i Ch.Bf.zero).k, .bool (bs.getD i Ch.Bf.zero).h, .int .i64 (bs.getD i Ch.Bf.zero).v] 64 (0, 0))) →
      OwnU w B (.slice a m cap) m (Ch.backAll tx ls (bs.drop k)).2.1 (.slice r p q) p (Ch.backAll tx ls (bs.drop k)).2.2 → (∀ g, (Value.slice r p q).ownBlock = some g → H + bs.length ≤ g) → H + bs.length ≤ w.heap.size → Below B0 W w → W.heap.size ≤ w.heap.size → B0 ≤ W.heap.size →
      Leaves Try.prog Try.f112 tmps Q (putOff R T H k) .returning w := by
  intro k
  induction k with
  | zero =>
    intro _ w a m cap r p q hR hT hX U hrec hsz bel _ _
    rw [List.drop_zero] at hR U
    refine ⟨_, hres w _ _ _ hR, ?_⟩
    exact hQ w a m cap r p q U bel
  | succ k ih =>
    intro hk w a m cap r p q hR hT hX U hrec hsz bel hW hBW
    have hkl : k < bs.length := by omega
    have keep := Ch.back_keeps (tx := tx) hg (bs.drop (k + 1))
    have hlen : p ≤ 1048576 := by
      have := U.len.2
      have h2 := keep.2.1
      simp at h2
      omega
    have hnext := Ch.back_next (tx := tx) (ls := ls) hkl
    generalize hst : Ch.backAll tx ls (bs.drop (k + 1)) = st at *
    obtain ⟨c, l, rs⟩ := st
    have hXk := hX k (by omega)
    unfold putOff
    refine leaves_cons (f := 173) (args := #[.pointer (some ⟨R, 0, none⟩), .pointer (some ⟨T, 0, none⟩), .pointer (some ⟨H + k, 0, none⟩)]) (by simp) (by simp [go_sem]) ?_
    refine (back_deferred R T (H + k) c tx _ _ _ a r m cap p q B l rs .returning w hR hT hXk U hRB (by omega) keep.1 hlen).mono ?_
    rintro e u' w' ⟨rfl, rfl, a', m', c', r', p', q', hR', U', kb, at'⟩
    rw [← hnext] at hR' U'
    have hne : ∀ j, j < H + bs.length → some j ≠ (Value.slice r p q).ownBlock := fun j hj e => by have := hrec j e.symm; omega
    refine ih (by omega) w' a' m' c' r' p' q' hR' ((kb.block T (by omega) hTR (hne T (by omega))).trans hT) (fun i hi => (kb.block (H + i) (by omega) (by omega) (hne (H + i) (by omega))).trans (hX i (by omega))) U' (fun g hg' => ?_) (Nat.le_trans hsz kb.size) ?_ (Nat.le_trans hW kb.size) hBW
    · rcases at' g hg' with h | h
      · exact hrec g h
      · omega
    · refine ⟨kb.os.trans bel.os, kb.tape.trans bel.tape, kb.output.trans bel.output, Nat.le_trans bel.size kb.size, fun j hj => ?_⟩
      exact (kb.block j (by omega) (by omega) (hne j (by omega))).trans (bel.block j hj)
end Go.Proofs.Ytjagobcogkdfhaa


/- takenBack and UndoAll of the program. -/
namespace Go.Proofs.Ytjagobcogkdfhaa
open Go.RowKit

theorem OwnU.low {w : World} {B m p : Nat} {lv rv : Value} {ls : List (List Ch.Row)} {rs : List Ch.Rec} (h : OwnU w B lv m ls rv p rs) {q o : Nat} (hq : q < B) (u : Value) : OwnU (w.setCell ⟨q, o, Option.none⟩ u) B lv m ls rv p rs := by
  obtain ⟨vs, lo, hi, h1, h2, h3, h4, h5⟩ := h
  exact ⟨vs, lo, hi, h1.store3 hq u, ownsRow_setCell_below h2 (a := ⟨q, o, Option.none⟩) hq u, h3, by simpa using h4, h5⟩
theorem Ch.setF_leaves {ls : List (List Ch.Row)} {tx : Int} {bs : List Ch.Bf} (h : Ch.setF ls tx bs = 0) : Ch.leavesFault ls = 0 := by
  unfold Ch.setF at h
  by_cases h1 : (Ch.leavesFault ls != 0) = true
  · rw [if_pos h1] at h; rw [h] at h1; cases h1
  · simpa using h1
theorem Ch.setF_rest {ls : List (List Ch.Row)} {tx : Int} {bs : List Ch.Bf} (h : Ch.setF ls tx bs = 0) : Ch.inB tx 1 999 = true ∧ Ch.befFault bs = 0 := by
  have hg := Ch.setF_leaves h
  unfold Ch.setF at h
  rw [hg, if_neg (by decide)] at h
  by_cases h2 : Ch.inB tx 1 999 = true
  · rw [if_pos h2] at h; exact ⟨h2, h⟩
  · rw [if_neg h2] at h; cases h
theorem Ch.setF_few {ls : List (List Ch.Row)} {tx : Int} {bs : List Ch.Bf} (h : Ch.setF ls tx bs = 0) : bs.length ≤ 40 := by
  have := (Ch.setF_rest h).2
  unfold Ch.befFault at this
  by_cases hb : 40 < bs.length
  · rw [if_pos hb] at this; cases this
  · omega
theorem heap_mid {w : World} {R : Nat} {t : TypeId} {u0 u1 u2 : Value} (h : w.heap[R]? = some (.cells #[u0, u1, u2] t (0, 0))) (v1 : Value) : (w.setCell ⟨R, 1, none⟩ v1).heap[R]? = some (.cells #[u0, v1, u2] t (0, 0)) := by
  have h1 := Joins.block_setCell (i := 1) h v1
  simpa using h1

set_option linter.unusedSimpArgs false in
set_option maxRecDepth 20000 in
set_option maxHeartbeats 4000000 in
theorem takenBack_any (a : Option Addr) (n cap : Nat) (tx : Int) (ab : Option Addr) (nb cb : Nat) (ls : List (List Ch.Row)) (bs : List Ch.Bf) (w : World) (h : LvAt w a n ls) (hg : Ch.leavesFault ls = 0) (hb : CellsAt w ab (nb * 3) (bfcells bs)) (hnb : nb ≤ 40) :
    Calls Try.prog 112 #[.slice a n cap, .int .i64 tx, .slice ab nb cb] w fun e w' => ∃ a' m c' r p q, e = .returned (.agg #[.int .i64 (Ch.backAll tx ls bs).1, .slice a' m c', .slice r p q]) ∧ OwnU w' w.heap.size (.slice a' m c') m (Ch.backAll tx ls bs).2.1 (.slice r p q) p (Ch.backAll tx ls bs).2.2 ∧ Below w.heap.size w w' := by
  have hs := Ch.good_size hg
  have HL := hb.bflen
  have hgl : ∀ k, k < n → (ls.getD k []).length ≠ 0 := fun k hk => (Ch.good_leaf hg k (by have := h.len.out; omega)).1
  have hmf : ∀ (fn : Fn) (first cap : Array Value) (w : World), (Instr.makeFunc fn first cap).run Try.prog w = .ok (.func fn first cap) w := fun _ _ _ _ => rfl
  have b0 : Below w.heap.size w ((w.alloc (.cells #[.int .i64 tx] 2)).alloc (.cells #[.int .i64 0, .slice none 0 0, .slice none 0 0] 61)) := ((Below.refl _ _).alloc (Nat.le_refl _) _).alloc (by simp) _
  have hT0 := block_below ((Below.refl _ _).alloc (Nat.le_refl _) (.cells #[.int .i64 0, .slice none 0 0, .slice none 0 0] 61)) (heap_alloc_new w (.cells #[.int .i64 tx] 2))
  have hR0 := heap_alloc_new (w.alloc (.cells #[.int .i64 tx] 2)) (.cells #[.int .i64 0, .slice none 0 0, .slice none 0 0] 61)
  rw [show (w.alloc (.cells #[.int .i64 tx] 2)).heap.size = w.heap.size + 1 by simp] at hR0
  go_enter_defers Try.func112, Try.ntmps112
  go_wp2_with fail
  refine (cloneLeavesAll_any a n cap ls _ (h.below b0) hs hgl).mono ?_
  rintro e w1 ⟨a1, c1, rfl, o1, b1⟩
  have hR1 := block_below b1 hR0
  have hT1 := block_below b1 hT0
  have bE := b0.trans (b1.mono b0.size)
  have z1 := b1.size
  simp at z1
  obtain ⟨x0, x1, x2, f0, f1, f2⟩ := rowThree hR1
  clear hR0 hT0 b0
  go_wp2
  have hRV := heap_mid hR1 (.slice a1 n c1)
  have hTV : (w1.setCell ⟨w.heap.size + 1, 1, none⟩ (.slice a1 n c1)).heap[w.heap.size]? = some (.cells #[.int .i64 tx] 2 (0, 0)) := (Below.heap_setCell _ _ _ _ (by show w.heap.size ≠ w.heap.size + 1; omega)).trans hT1
  obtain ⟨vs, o1⟩ := o1.told
  have o1V := o1.store3 (q := w.heap.size + 1) (o := 1) (by simp) (.slice a1 n c1)
  have hBV := bE.setCell (p := ⟨w.heap.size + 1, 1, none⟩) (Nat.le_succ _) (.slice a1 n c1)
  have hVs : (w1.setCell ⟨w.heap.size + 1, 1, none⟩ (.slice a1 n c1)).heap.size = w1.heap.size := by simp
  generalize w1.setCell ⟨w.heap.size + 1, 1, none⟩ (.slice a1 n c1) = V at *
  clear x0 x1 x2 f0 f1 f2 hR1 hT1 b1 o1 bE
  refine wp_loop (fun act wr => ∃ (k : Nat) (u8 u15 u16 u17 u18 u19 : Value), k ≤ nb ∧ act = { tmps := #[.slice a n cap, .int .i64 tx, .slice ab nb cb, undef, .pointer (some ⟨w.heap.size, 0, none⟩), undef, .pointer (some ⟨w.heap.size + 1, 0, none⟩), undef, u8, .slice a n cap, .slice a1 n c1, .pointer (some ⟨w.heap.size + 1, 1, none⟩), .slice ab nb cb, .int .i64 nb, .int .i64 k, u15, u16, u17, u18, u19, undef], defers := putOff (w.heap.size + 1) w.heap.size w1.heap.size k } ∧ wr.heap.size = w1.heap.size + k ∧ (∀ i, i < k → wr.heap[w1.heap.size + i]? = some (.cells #[.int .i64 (bs.getD i Ch.Bf.zero).k, .bool (bs.getD i Ch.Bf.zero).h, .int .i64 (bs.getD i Ch.Bf.zero).v] 64 (0, 0))) ∧ Below V.heap.size V wr) (fun act _ => nb - (intOf (act.tmps.getD 14 undef)).toNat) ⟨0, undef, undef, undef, undef, undef, undef, Nat.zero_le _, rfl, by simpa using hVs, fun i hi => absurd hi (by omega), Below.refl _ _⟩ ?_
  rintro act wr ⟨k, u8, u15, u16, u17, u18, u19, hk, rfl, hsz, hX, hB⟩
  have hbW := hBV.trans (hB.mono hBV.size)
  by_cases hlt : k < nb
  · obtain ⟨b, off, rfl, q0, q1, q2⟩ := (hb.below hbW).bef hlt
    have hbl := lt_of_cell q0
    have Hr := hid (rfl : bs.getD k Ch.Bf.zero = bs.getD k Ch.Bf.zero)
    generalize hr : bs.getD k Ch.Bf.zero = r at q0 q1 q2
    replace Hr := hid hr
    clear hr
    obtain ⟨rk, rh, rv⟩ := r
    simp only at q0 q1 q2
    have HXk : Hid (wr.heap.size = w1.heap.size + k) := hsz
    have HX := hid hX
    have hoff : putOff (w.heap.size + 1) w.heap.size w1.heap.size (k + 1) = { target := .fn (.func 173) #[.pointer (some ⟨w.heap.size + 1, 0, none⟩), .pointer (some ⟨w.heap.size, 0, none⟩), .pointer (some ⟨w1.heap.size + k, 0, none⟩)], args := #[] } :: putOff (w.heap.size + 1) w.heap.size w1.heap.size k := rfl
    have HO := hid hoff
    generalize putOff (w.heap.size + 1) w.heap.size w1.heap.size k = D at *
    clear hX hsz hoff
    go_wp2
    refine ⟨⟨k + 1, .pointer (some ⟨wr.heap.size, 0, none⟩), .bool true, .pointer (some ⟨b, off + k * 3, none⟩), .agg #[.int .i64 rk, .bool rh, .int .i64 rv], .func (.func 173) #[] #[.pointer (some ⟨w.heap.size + 1, 0, none⟩), .pointer (some ⟨w.heap.size, 0, none⟩), .pointer (some ⟨wr.heap.size, 0, none⟩)], .int .i64 ((k : Int) + 1), by omega, by rw [HO.out, ← HXk.out]; simp, by have := HXk.out; simp; omega, fun i hi => ?_, hB.alloc hB.size _⟩, by simp [intOf]; omega⟩
    by_cases hik : i = k
    · subst hik
      rw [Hr.out, ← HXk.out]
      exact heap_alloc_new wr _
    · exact (Below.heap_alloc wr _ _ (by have := HXk.out; omega)).trans (HX.out i (by omega))
  · obtain rfl : k = nb := by omega
    have hRW := block_below hB hRV
    have hTW := block_below hB hTV
    obtain ⟨x0, x1, x2, f0, f1, f2⟩ := rowThree hRW
    have hbl : bs.length = k := by have := HL.out; omega
    have hW6 := ((hbW.setCell (p := ⟨w.heap.size + 1, 0, none⟩) (Nat.le_succ _) (.int .i64 0)).setCell (p := ⟨w.heap.size + 1, 1, none⟩) (Nat.le_succ _) (.slice a1 n c1)).setCell (p := ⟨w.heap.size + 1, 2, none⟩) (Nat.le_succ _) (.slice none 0 0)
    have hV6 := fun j (hj : j ≠ w.heap.size + 1) => show ((((wr.setCell ⟨w.heap.size + 1, 0, none⟩ (.int .i64 0)).setCell ⟨w.heap.size + 1, 1, none⟩ (.slice a1 n c1)).setCell ⟨w.heap.size + 1, 2, none⟩ (.slice none 0 0)).heap[j]? = wr.heap[j]?) from by
      rw [Below.heap_setCell _ _ _ _ (by exact hj), Below.heap_setCell _ _ _ _ (by exact hj), Below.heap_setCell _ _ _ _ (by exact hj)]
    have o1W := (o1V.below hB)
    have o6 := ((o1W.store3 (q := w.heap.size + 1) (o := 0) (by simp) (.int .i64 0)).store3 (q := w.heap.size + 1) (o := 1) (by simp) (.slice a1 n c1)).store3 (q := w.heap.size + 1) (o := 2) (by simp) (.slice none 0 0)
    have hsW := hsz
    have hBs := hB.size
    go_wp2
    have hend := Ch.back_end (tx := tx) (ls := ls) (bs := bs) (k := bs.length) (Nat.le_refl _)
    rw [← hbl]
    refine leaves_back w.heap.size (w.heap.size + 1) w.heap.size w1.heap.size (w.heap.size + 2) k (Nat.le_succ _) tx ls bs hg (by omega) (by omega) (by omega) (by omega) (by omega) (by omega) _ _ w ?_ ?_ bs.length (Nat.le_refl _) _ a1 n c1 none 0 0 ?_ ((hV6 _ (by omega)).trans hTW) (fun i hi => (hV6 _ (by omega)).trans (hX i (by omega))) ?_ (fun g hg => by simp [Value.ownBlock] at hg) (by simp; omega) hW6 (by simp; omega) (Nat.le_refl _)
    · intro w' z0 z1' z2 hz
      obtain ⟨y0, y1, y2, _, _, _⟩ := rowThree hz
      simp [results, Try.results112, go_sem, y0, y1, y2]
    · intro w' a' m' cap' r' p' q' U' bel'
      exact ⟨a', m', cap', r', p', q', rfl, U'.base (by omega), bel'⟩
    · rw [hend]
      exact heap_three hRW _ _ _
    · rw [hend]
      have hl0 := owns_lt o6.2.1
      have hl1 := o6.lt
      refine ⟨vs, w.heap.size + 2, w1.heap.size + k, by simpa using o6, World.ownsRow_nil _ _ _ _, Nat.le_refl _, by simp; omega, fun g hg => ?_, fun i x g hx hg => ?_, fun g hg => by simp [Value.ownBlock] at hg⟩
      · have := hl0 g hg; simp at this; omega
      · have := hl1 i x g hx hg; simp at this; omega

set_option linter.unusedSimpArgs false in
set_option maxHeartbeats 4000000 in
theorem implUndoAll_any (a : Option Addr) (n cap : Nat) (tx : Int) (ab : Option Addr) (nb cb : Nat) (ls : List (List Ch.Row)) (bs : List Ch.Bf) (w : World) (h : LvAt w a n ls) (hs : Ch.lvSize ls ≤ 1048576) (hb : CellsAt w ab (nb * 3) (bfcells bs)) (hnb : nb ≤ 1048576) :
    Calls Try.prog 41 #[.slice a n cap, .int .i64 tx, .slice ab nb cb] w fun e w' => ∃ a' m c' r p q, e = .returned (.agg #[.int .i64 (Ch.undoR ls tx bs).1, .slice a' m c', .slice r p q]) ∧ OwnU w' w.heap.size (.slice a' m c') m (Ch.undoR ls tx bs).2.1 (.slice r p q) p (Ch.undoR ls tx bs).2.2 ∧ Below w.heap.size w w' := by
  have b0 : Below w.heap.size w (w.alloc (.cells #[.int .i64 0, .slice none 0 0, .slice none 0 0] 61)) := (Below.refl _ _).alloc (Nat.le_refl _) _
  have FI := fun W hW hb' => setFault_any a n cap tx ab nb cb ls bs W hW hs hb' hnb
  obtain ⟨c, HC⟩ : ∃ c, Hid (Ch.setF ls tx bs = c) := ⟨_, rfl⟩
  rw [HC.out] at FI
  by_cases h0 : c = 0
  · subst h0
    rw [Ch.undoR_ok HC.out]
    have hg := Ch.setF_leaves HC.out
    have hn40 : nb ≤ 40 := by have := Ch.setF_few HC.out; have := hb.bflen.out; omega
    have TI := fun W hW hb' => takenBack_any a n cap tx ab nb cb ls bs W hW hg hb' hn40
    generalize Ch.backAll tx ls bs = st at *
    clear HC hg
    go_enter Try.func41, Try.ntmps41
    go_wp2_with fail
    refine (FI _ (h.below b0) (hb.below b0)).mono ?_
    rintro e w1 ⟨rfl, b1⟩
    obtain ⟨x0, x1, x2, f0, f1, f2⟩ := three_box b1
    have hz := lt_of_cell x0
    have bE := b0.trans (b1.mono b0.size)
    clear b1 FI
    go_wp2_with fail
    refine (TI _ (h.below bE) (hb.below bE)).mono ?_
    rintro e w2 ⟨a2, m2, c2, r2, p2, q2, rfl, U2, b2⟩
    replace x0 := keep_cell b2 x0
    replace x1 := keep_cell b2 x1
    replace x2 := keep_cell b2 x2
    replace f0 := ((bcell b2).2 w.heap.size 0 hz).trans f0
    replace f1 := ((bcell b2).2 w.heap.size 1 hz).trans f1
    replace f2 := ((bcell b2).2 w.heap.size 2 hz).trans f2
    have bF := bE.trans (b2.mono bE.size)
    go_wp2
    refine bodyPost_ret (v := .agg #[.int .i64 st.1, .slice a2 m2 c2, .slice r2 p2 q2]) (by simp [results, Try.results41, go_sem, x0, x1, x2]) rfl ⟨a2, m2, c2, r2, p2, q2, rfl, ?_, ((bF.setCell (p := ⟨w.heap.size, 0, none⟩) (Nat.le_refl _) _).setCell (p := ⟨w.heap.size, 1, none⟩) (Nat.le_refl _) _).setCell (p := ⟨w.heap.size, 2, none⟩) (Nat.le_refl _) _⟩
    exact (((U2.low hz _).low hz _).low hz _).base (Nat.le_of_lt hz)
  · have hc : (c != 0) = true := by simpa using h0
    rw [Ch.undoR_code HC.out hc]
    clear HC
    go_enter Try.func41, Try.ntmps41
    go_wp2_with fail
    refine (FI _ (h.below b0) (hb.below b0)).mono ?_
    rintro e w1 ⟨rfl, b1⟩
    obtain ⟨x0, x1, x2, f0, f1, f2⟩ := three_box b1
    have hz := lt_of_cell x0
    have bE := b0.trans (b1.mono b0.size)
    clear b1 FI
    go_wp2
    exact bodyPost_ret (v := .agg #[.int .i64 c, .slice none 0 0, .slice none 0 0]) (by simp [results, Try.results41, go_sem, x0, x1, x2]) rfl ⟨none, 0, 0, none, 0, 0, rfl, OwnU.none _ _, ((bE.setCell (p := ⟨w.heap.size, 0, none⟩) (Nat.le_refl _) _).setCell (p := ⟨w.heap.size, 1, none⟩) (Nat.le_refl _) _).setCell (p := ⟨w.heap.size, 2, none⟩) (Nat.le_refl _) _⟩
end Go.Proofs.Ytjagobcogkdfhaa

