
/- The law FnIndexes. -/
import Derived.Test.YthfanfnbjldddaaGreatMz0
import Derived.Test.YthfanfnbjldddaaGreatMz2
import Derived.Test.YthfanfnbjldddaaGreatMz8
import Derived.Test.YthfanfnbjldddaaGreatIxQ
import Derived.Test.YthfanfnbjldddaaGreatMz10
import Derived.Test.YthfanfnbjldddaaGreatMz6
import Derived.Deep.DeepCutAuto
namespace Go.Proofs.YthfanfnbjldddaaGreat
open Go.RowKit

theorem fieldPr (c : Int) (a : Option Addr) (m k : Nat) (W : World) : (Instr.field 29 (.agg #[.int .i64 c, .slice a m k]) 0).run Tryz.prog W = .ok (.int .i64 c) W ∧ (Instr.field 29 (.agg #[.int .i64 c, .slice a m k]) 1).run Tryz.prog W = .ok (.slice a m k) W := ⟨by kernel_rfl, by kernel_rfl⟩
theorem fieldUz (c : Int) (a : Option Addr) (m k : Nat) (r : Option Addr) (p q : Nat) (W : World) : (Instr.field 33 (.agg #[.int .i64 c, .slice a m k, .slice r p q]) 0).run Tryz.prog W = .ok (.int .i64 c) W := by kernel_rfl
theorem pairs_lenX {w : World} {B m c : Nat} {a : Option Addr} {ps : List Ch.Hold} (h : w.ownsRow B 55 2 (.slice a m c) m (hcells ps)) : m = ps.length := (owns_cells h).hlen.out
theorem boxX3 {W : World} {c : Value} {l r : Value} {t : TypeId} {g : Nat} (h : W.heap[g]? = some (.cells #[c, l, r] t (0, 0))) : W.cell? ⟨g, 0, none⟩ = some c ∧ W.cell? ⟨g, 1, none⟩ = some l ∧ W.cell? ⟨g, 2, none⟩ = some r :=
  ⟨cell_of_row _ _ _ _ _ _ h, cell_of_row _ _ _ _ _ _ h, cell_of_row _ _ _ _ _ _ h⟩
theorem owns_otherX {w : World} {base : Nat} {e : TypeId} {size : Nat} {v : Value} {n : Nat} {xs : List Value} (h : w.ownsRow base e size v n xs) {P o : Nat} (hP : ∀ g, v.ownBlock = some g → g ≠ P) (u : Value) : (w.setCell ⟨P, o, none⟩ u).ownsRow base e size v n xs := by
  refine ⟨h.1, ?_⟩
  rcases h.2 with h' | ⟨g, cap, cur, hv, hb, hh, h1, h2, h3, h4⟩
  · exact .inl h'
  · refine .inr ⟨g, cap, cur, hv, hb, ?_, h1, h2, h3, h4⟩
    exact (Below.heap_setCell _ _ _ _ (by show g ≠ P; exact hP g (by rw [hv]; rfl))).trans hh
/-- A result in its box, at any place. -/
def TAx (wx A : World) (P : Nat) (a2 : Option Addr) (m2 c2 : Nat) (rs : List Ch.Hold) : Prop :=
  A.heap.size ≤ P ∧ P < wx.heap.size ∧ m2 ≤ 1048576 ∧ wx.cell? ⟨P, 0, none⟩ = some (.int .i64 0) ∧ wx.cell? ⟨P, 1, none⟩ = some (.slice a2 m2 c2) ∧ wx.ownsRow A.heap.size 55 2 (.slice a2 m2 c2) m2 (hcells rs) ∧ (∀ g, (Value.slice a2 m2 c2).ownBlock = some g → g ≠ P) ∧ Below A.heap.size A wx
theorem Ch.setR_leaves {ls : List (List Ch.Row)} {tx key v : Int} {h : Bool} (h0 : (Ch.setR ls tx key h v).1 = 0) : Ch.leavesFault ls = 0 := by
  obtain ⟨c, l', r', hR⟩ : ∃ c l' r', Ch.setR ls tx key h v = (c, l', r') := ⟨_, _, _, rfl⟩
  rw [hR] at h0
  simp only at h0
  subst h0
  exact (Ch.sets_tell hR).1

set_option linter.unusedSimpArgs false in
set_option maxRecDepth 100000 in
set_option maxHeartbeats 16000000 in
theorem lawIndexes_any (a : Option Addr) (n cap : Nat) (zs : List Int) (w : World) (h : CellsAt w a n (bts zs)) (hb : IsB zs) :
    Calls Tryz.prog 3 #[.slice a n cap] w fun e w' => e = .returned (.bool true) ∧ Below w.heap.size w w' := by
  by_cases hbig : 1048576 < n
  · have hd : decide ((1048576 : Int) < (n : Int)) = true := by simp; omega
    have BI := fun W => big_any a n cap W
    rw [hd] at BI
    go_enter Tryz.func3, Tryz.ntmps3
    go_wp2_with fail
    refine (BI _).mono ?_
    rintro e w' ⟨rfl, rfl⟩
    go_wp2
    go_ret
    exact ⟨rfl, Below.refl _ _⟩
  have hn : n ≤ 1048576 := by omega
  have hd : decide ((1048576 : Int) < (n : Int)) = false := by simp; omega
  have BI := fun W => big_any a n cap W
  rw [hd] at BI
  clear hbig
  go_enter Tryz.func3, Tryz.ntmps3
  go_wp2_with fail
  refine (BI _).mono ?_
  rintro e w' ⟨rfl, hw'⟩
  obtain rfl := hw'.symm
  go_wp2_with fail
  refine (drawSet_any a n cap zs _ h hb hn).mono ?_
  rintro e w1 ⟨ls, a1, n1, c1, tx, key, has, v, hbe, rfl, o1, b1⟩
  have hs : Ch.lvSize ls ≤ 1048576 := by have := hbe.1; omega
  have hsa := small_at hs
  have II := fun (W : World) (hW : OwnLv W w.heap.size (.slice a1 n1 c1) n1 ls) => implIxOf_any a1 n1 c1 ls W (OwnLv.at hW hsa) hs
  have SI : ∀ W, OwnLv W w.heap.size (.slice a1 n1 c1) n1 ls → Calls Tryz.prog 8 #[.slice a1 n1 c1] W fun e W' => ∃ a' m c', e = .returned (.agg #[.int .i64 (Ch.ixOfR ls).1, .slice a' m c']) ∧ W'.ownsRow W.heap.size 55 2 (.slice a' m c') m (hcells (Ch.ixOfR ls).2) ∧ Below W.heap.size W W' := fun W hW => (specIxOf_any a1 n1 c1 ls W (OwnLv.at hW hsa) hs).mono (by rintro e W' ⟨a', m, c', h1, _, h3, h4⟩; exact ⟨a', m, c', h1, h3, h4⟩)
  have IS := fun (W : World) (hW : OwnLv W w.heap.size (.slice a1 n1 c1) n1 ls) => implSetValue_any a1 n1 c1 tx key has v ls W (OwnLv.at hW hsa) hs
  have SS : ∀ W, OwnLv W w.heap.size (.slice a1 n1 c1) n1 ls → Calls Tryz.prog 9 #[.slice a1 n1 c1, .int .i64 tx, .int .i64 key, .bool has, .int .i64 v] W fun e W' => ∃ a' m c' r p q, e = .returned (.agg #[.int .i64 (Ch.setR ls tx key has v).1, .slice a' m c', .slice r p q]) ∧ Below W.heap.size W W' := fun W hW => (specSetValue_any a1 n1 c1 tx key has v ls W (OwnLv.at hW hsa) hs).mono (by rintro e W' ⟨a', m, c', r, p, q, h1, _, h4⟩; exact ⟨a', m, c', r, p, q, h1, h4⟩)
  have BO := fun (W : World) (hW : OwnLv W w.heap.size (.slice a1 n1 c1) n1 ls) => implBeforeOf_any a1 n1 c1 key ls W (OwnLv.at hW hsa) hs
  have hsm := (Ch.setR_small (ls := ls) (tx := tx) (key := key) (v := v) (has := has)).1
  have HLV := hid (fun h0 => Ch.setR_leaves (ls := ls) (tx := tx) (key := key) (v := v) (h := has) h0)
  have HIO := hid (fun (h0 : Ch.leavesFault ls = 0) => Ch.ixOfR_ok h0)
  obtain ⟨cr, ls', rs, hR⟩ : ∃ c ls' rs, Hid (Ch.setR ls tx key has v = (c, ls', rs)) := ⟨_, _, _, rfl⟩
  rw [hR.out] at IS SS hsm HLV
  simp only at IS SS hsm HLV
  obtain ⟨ci, ix, hI⟩ : ∃ c ix, Hid (Ch.ixOfR ls = (c, ix)) := ⟨_, _, rfl⟩
  rw [hI.out] at II SI HIO
  simp only at II SI
  clear hbe
  go_wp2_with fail
  refine (II _ o1).mono ?_
  rintro e w2 ⟨a2, m2, c2, rfl, hm2, o2, b2⟩
  have bE := b1.trans (b2.mono b1.size)
  have o1 := o1.below b2
  have kP8 : Below w2.heap.size w2 (w2.alloc (.cells #[.int .i64 ci, .slice a2 m2 c2] 29)) := (Below.refl _ _).alloc (Nat.le_refl _) _
  have hP8 := heap_alloc_new w2 (.cells #[.int .i64 ci, .slice a2 m2 c2] 29)
  clear b1 b2 II
  go_wp2_with fail
  refine (IS _ (o1.below kP8)).mono ?_
  rintro e w3 ⟨a3, m3, c3, r3, p3, q3, rfl, o3, b3⟩
  have k23 := kP8.trans (b3.mono (by simp))
  have hP8 := block_below b3 hP8
  have o1 := o1.below k23
  have o2 := owns_below o2 k23
  have bE := bE.trans (k23.mono bE.size)
  have kP9 : Below w3.heap.size w3 (w3.alloc (.cells #[.int .i64 cr, .slice a3 m3 c3, .slice r3 p3 q3] 33)) := (Below.refl _ _).alloc (Nat.le_refl _) _
  have hP9 := heap_alloc_new w3 (.cells #[.int .i64 cr, .slice a3 m3 c3, .slice r3 p3 q3] 33)
  have hP8 := block_below kP9 hP8
  obtain ⟨x0, x1, _, _⟩ := row2 hP8
  obtain ⟨y0, y1, y2⟩ := boxX3 hP9
  have lx := lt_of_cell x0
  clear IS b3 kP8 k23
  have hcc : (ci == ci) = true := by simp
  have hrr : (cr == cr) = true := by simp
  by_cases hi0 : ci = 0
  rotate_left
  · have hc : (ci != 0) = true := by simpa using hi0
    clear hi0 HLV HIO hR hI
    go_wp2_with fail
    refine wp_region_noPanic ?_
    refine wp_region_held_drew (S := fun W' => W'.cell? ⟨w2.heap.size, 0, none⟩ = some (.int .i64 ci) ∧ W'.cell? ⟨w3.heap.size, 0, none⟩ = some (.int .i64 cr) ∧ Below w3.heap.size w3 W') (by kernel_rfl) (⟨x0, y0, kP9.drew⟩) (fun hH => ?_)
    refine hTake (i := 0) (v := ?_) rfl (by kernel_rfl) (by kernel_rfl) (by kernel_rfl) (by rfl) ?_ hH ?_
    rotate_left
    · intro W hW; (try dsimp only at hW); go_simp <;> with_reducible rfl
    simp only [Act.put, List.setIfInBounds_toArray, List.set_cons_zero, List.set_cons_succ]
    refine hTake (i := 3) (v := ?_) rfl (by kernel_rfl) (by kernel_rfl) (by kernel_rfl) (by rfl) ?_ hH ?_
    rotate_left
    · intro W hW; (try dsimp only at hW); go_simp <;> with_reducible rfl
    simp only [Act.put, List.setIfInBounds_toArray, List.set_cons_zero, List.set_cons_succ]
    refine hTake (i := 4) (v := ?_) rfl (by kernel_rfl) (by kernel_rfl) (by kernel_rfl) (by rfl) ?_ hH ?_
    rotate_left
    · intro W hW; (try dsimp only at hW); go_simp <;> with_reducible rfl
    simp only [Act.put, List.setIfInBounds_toArray, List.set_cons_zero, List.set_cons_succ]
    refine wpAnyH_ready (rs := [1]) (by kernel_rfl) (by simp) ?_
    refine AllReadyH.cons rfl (fun K hK => ?_) AllReadyH.nil
    go_simp
    refine (SI _ (o1.below hH.2.2)).mono ?_
    rintro e w6 ⟨a6, m6, c6, rfl, o6, b6⟩
    have hfd := fun W => (fieldPr ci a6 m6 c6 W).1
    go_wp2_with fail
    refine hK.out _ _ ?_ (fun hH => ?_)
    · exact ⟨keep_cell b6 hH.1, keep_cell b6 hH.2.1, hH.2.2.trans (b6.mono hH.2.2.size)⟩
    clear hK K
    refine hTake (i := 2) (v := ?_) rfl (by kernel_rfl) (by kernel_rfl) (by kernel_rfl) (by rfl) ?_ hH ?_
    rotate_left
    · intro W hW; (try dsimp only at hW); go_simp <;> with_reducible rfl
    simp only [Act.put, List.setIfInBounds_toArray, List.set_cons_zero, List.set_cons_succ]
    refine hTake (i := 5) (v := ?_) rfl (by kernel_rfl) (by kernel_rfl) (by kernel_rfl) (by rfl) ?_ hH ?_
    rotate_left
    · intro W hW; (try dsimp only at hW); go_simp <;> with_reducible rfl
    simp only [Act.put, List.setIfInBounds_toArray, List.set_cons_zero, List.set_cons_succ]
    refine hTake (i := 6) (v := ?_) rfl (by kernel_rfl) (by kernel_rfl) (by kernel_rfl) (by rfl) ?_ hH ?_
    rotate_left
    · intro W hW; (try dsimp only at hW); go_simp <;> with_reducible rfl
    simp only [Act.put, List.setIfInBounds_toArray, List.set_cons_zero, List.set_cons_succ]
    refine hTake (i := 7) (v := ?_) rfl (by kernel_rfl) (by kernel_rfl) (by kernel_rfl) (by rfl) ?_ hH ?_
    rotate_left
    · intro W hW; (try dsimp only at hW); go_simp <;> with_reducible rfl
    simp only [Act.put, List.setIfInBounds_toArray, List.set_cons_zero, List.set_cons_succ]
    refine hTake (i := 8) (v := ?_) rfl (by kernel_rfl) (by kernel_rfl) (by kernel_rfl) (by rfl) ?_ hH ?_
    rotate_left
    · intro W hW; (try dsimp only at hW); go_simp <;> with_reducible rfl
    simp only [Act.put, List.setIfInBounds_toArray, List.set_cons_zero, List.set_cons_succ]
    refine hTake (i := 9) (v := ?_) rfl (by kernel_rfl) (by kernel_rfl) (by kernel_rfl) (by rfl) ?_ hH ?_
    rotate_left
    · intro W hW; (try dsimp only at hW); go_simp <;> with_reducible rfl
    simp only [Act.put, List.setIfInBounds_toArray, List.set_cons_zero, List.set_cons_succ]
    refine hTake (i := 10) (v := ?_) rfl (by kernel_rfl) (by kernel_rfl) (by kernel_rfl) (by rfl) ?_ hH ?_
    rotate_left
    · intro W hW; (try dsimp only at hW); go_simp <;> with_reducible rfl
    simp only [Act.put, List.setIfInBounds_toArray, List.set_cons_zero, List.set_cons_succ]
    refine hTake (i := 11) (v := ?_) rfl (by kernel_rfl) (by kernel_rfl) (by kernel_rfl) (by rfl) ?_ hH ?_
    rotate_left
    · intro W hW; (try dsimp only at hW); go_simp <;> with_reducible rfl
    simp only [Act.put, List.setIfInBounds_toArray, List.set_cons_zero, List.set_cons_succ]
    refine hTake (i := 14) (v := ?_) rfl (by kernel_rfl) (by kernel_rfl) (by kernel_rfl) (by rfl) ?_ hH ?_
    rotate_left
    · intro W hW; (try dsimp only at hW); go_simp <;> with_reducible rfl
    simp only [Act.put, List.setIfInBounds_toArray, List.set_cons_zero, List.set_cons_succ]
    refine hTake (i := 15) (v := ?_) rfl (by kernel_rfl) (by kernel_rfl) (by kernel_rfl) (by rfl) ?_ hH ?_
    rotate_left
    · intro W hW; (try dsimp only at hW); go_simp <;> with_reducible rfl
    simp only [Act.put, List.setIfInBounds_toArray, List.set_cons_zero, List.set_cons_succ]
    refine wpAnyH_ready (rs := [12]) (by kernel_rfl) (by simp) ?_
    refine AllReadyH.cons rfl (fun K hK => ?_) AllReadyH.nil
    go_simp
    refine (SS _ (o1.below hH.2.2)).mono ?_
    rintro e w7 ⟨a7, m7, c7, r7, p7, q7, rfl, b7⟩
    have hfd7 := fun W => fieldUz cr a7 m7 c7 r7 p7 q7 W
    go_wp2_with fail
    refine hK.out _ _ ?_ (fun hH => ?_)
    · exact ⟨keep_cell b7 hH.1, keep_cell b7 hH.2.1, hH.2.2.trans (b7.mono hH.2.2.size)⟩
    clear hK K
    refine hTake (i := 13) (v := ?_) rfl (by kernel_rfl) (by kernel_rfl) (by kernel_rfl) (by rfl) ?_ hH ?_
    rotate_left
    · intro W hW; (try dsimp only at hW); go_simp <;> with_reducible rfl
    simp only [Act.put, List.setIfInBounds_toArray, List.set_cons_zero, List.set_cons_succ]
    refine hTake (i := 16) (v := ?_) rfl (by kernel_rfl) (by kernel_rfl) (by kernel_rfl) (by rfl) ?_ hH ?_
    rotate_left
    · intro W hW; (try dsimp only at hW); go_simp <;> with_reducible rfl
    simp only [Act.put, List.setIfInBounds_toArray, List.set_cons_zero, List.set_cons_succ]
    refine hTake (i := 17) (v := ?_) rfl (by kernel_rfl) (by kernel_rfl) (by kernel_rfl) (by rfl) ?_ hH ?_
    rotate_left
    · intro W hW; (try dsimp only at hW); go_simp <;> with_reducible rfl
    simp only [Act.put, List.setIfInBounds_toArray, List.set_cons_zero, List.set_cons_succ]
    refine hTake (i := 18) (v := ?_) rfl (by kernel_rfl) (by kernel_rfl) (by kernel_rfl) (by rfl) ?_ hH ?_
    rotate_left
    · intro W hW; (try dsimp only at hW); go_simp <;> with_reducible rfl
    simp only [Act.put, List.setIfInBounds_toArray, List.set_cons_zero, List.set_cons_succ]
    refine wpAnyH_done (by kernel_rfl) ?_ _
    refine NoPanic.normal ?_
    have b9 := hH.2.2
    clear hH
    go_wp2
    go_ret
    exact ⟨rfl, bE.trans (b9.mono bE.size)⟩
  subst hi0
  by_cases hr0 : cr = 0
  rotate_left
  · have hc : (cr != 0) = true := by simpa using hr0
    clear hr0 HLV HIO hR hI
    go_wp2_with fail
    refine wp_region_noPanic ?_
    refine wp_region_held_drew (S := fun W' => W'.cell? ⟨w2.heap.size, 0, none⟩ = some (.int .i64 0) ∧ W'.cell? ⟨w3.heap.size, 0, none⟩ = some (.int .i64 cr) ∧ Below w3.heap.size w3 W') (by kernel_rfl) (⟨x0, y0, kP9.drew⟩) (fun hH => ?_)
    refine hTake (i := 0) (v := ?_) rfl (by kernel_rfl) (by kernel_rfl) (by kernel_rfl) (by rfl) ?_ hH ?_
    rotate_left
    · intro W hW; (try dsimp only at hW); go_simp <;> with_reducible rfl
    simp only [Act.put, List.setIfInBounds_toArray, List.set_cons_zero, List.set_cons_succ]
    refine hTake (i := 3) (v := ?_) rfl (by kernel_rfl) (by kernel_rfl) (by kernel_rfl) (by rfl) ?_ hH ?_
    rotate_left
    · intro W hW; (try dsimp only at hW); go_simp <;> with_reducible rfl
    simp only [Act.put, List.setIfInBounds_toArray, List.set_cons_zero, List.set_cons_succ]
    refine hTake (i := 4) (v := ?_) rfl (by kernel_rfl) (by kernel_rfl) (by kernel_rfl) (by rfl) ?_ hH ?_
    rotate_left
    · intro W hW; (try dsimp only at hW); go_simp <;> with_reducible rfl
    simp only [Act.put, List.setIfInBounds_toArray, List.set_cons_zero, List.set_cons_succ]
    refine wpAnyH_ready (rs := [1]) (by kernel_rfl) (by simp) ?_
    refine AllReadyH.cons rfl (fun K hK => ?_) AllReadyH.nil
    go_simp
    refine (SI _ (o1.below hH.2.2)).mono ?_
    rintro e w6 ⟨a6, m6, c6, rfl, o6, b6⟩
    have hfd := fun W => (fieldPr 0 a6 m6 c6 W).1
    go_wp2_with fail
    refine hK.out _ _ ?_ (fun hH => ?_)
    · exact ⟨keep_cell b6 hH.1, keep_cell b6 hH.2.1, hH.2.2.trans (b6.mono hH.2.2.size)⟩
    clear hK K
    refine hTake (i := 2) (v := ?_) rfl (by kernel_rfl) (by kernel_rfl) (by kernel_rfl) (by rfl) ?_ hH ?_
    rotate_left
    · intro W hW; (try dsimp only at hW); go_simp <;> with_reducible rfl
    simp only [Act.put, List.setIfInBounds_toArray, List.set_cons_zero, List.set_cons_succ]
    refine hTake (i := 5) (v := ?_) rfl (by kernel_rfl) (by kernel_rfl) (by kernel_rfl) (by rfl) ?_ hH ?_
    rotate_left
    · intro W hW; (try dsimp only at hW); go_simp <;> with_reducible rfl
    simp only [Act.put, List.setIfInBounds_toArray, List.set_cons_zero, List.set_cons_succ]
    refine hTake (i := 6) (v := ?_) rfl (by kernel_rfl) (by kernel_rfl) (by kernel_rfl) (by rfl) ?_ hH ?_
    rotate_left
    · intro W hW; (try dsimp only at hW); go_simp <;> with_reducible rfl
    simp only [Act.put, List.setIfInBounds_toArray, List.set_cons_zero, List.set_cons_succ]
    refine hTake (i := 7) (v := ?_) rfl (by kernel_rfl) (by kernel_rfl) (by kernel_rfl) (by rfl) ?_ hH ?_
    rotate_left
    · intro W hW; (try dsimp only at hW); go_simp <;> with_reducible rfl
    simp only [Act.put, List.setIfInBounds_toArray, List.set_cons_zero, List.set_cons_succ]
    refine hTake (i := 8) (v := ?_) rfl (by kernel_rfl) (by kernel_rfl) (by kernel_rfl) (by rfl) ?_ hH ?_
    rotate_left
    · intro W hW; (try dsimp only at hW); go_simp <;> with_reducible rfl
    simp only [Act.put, List.setIfInBounds_toArray, List.set_cons_zero, List.set_cons_succ]
    refine hTake (i := 9) (v := ?_) rfl (by kernel_rfl) (by kernel_rfl) (by kernel_rfl) (by rfl) ?_ hH ?_
    rotate_left
    · intro W hW; (try dsimp only at hW); go_simp <;> with_reducible rfl
    simp only [Act.put, List.setIfInBounds_toArray, List.set_cons_zero, List.set_cons_succ]
    refine hTake (i := 10) (v := ?_) rfl (by kernel_rfl) (by kernel_rfl) (by kernel_rfl) (by rfl) ?_ hH ?_
    rotate_left
    · intro W hW; (try dsimp only at hW); go_simp <;> with_reducible rfl
    simp only [Act.put, List.setIfInBounds_toArray, List.set_cons_zero, List.set_cons_succ]
    refine hTake (i := 11) (v := ?_) rfl (by kernel_rfl) (by kernel_rfl) (by kernel_rfl) (by rfl) ?_ hH ?_
    rotate_left
    · intro W hW; (try dsimp only at hW); go_simp <;> with_reducible rfl
    simp only [Act.put, List.setIfInBounds_toArray, List.set_cons_zero, List.set_cons_succ]
    refine hTake (i := 14) (v := ?_) rfl (by kernel_rfl) (by kernel_rfl) (by kernel_rfl) (by rfl) ?_ hH ?_
    rotate_left
    · intro W hW; (try dsimp only at hW); go_simp <;> with_reducible rfl
    simp only [Act.put, List.setIfInBounds_toArray, List.set_cons_zero, List.set_cons_succ]
    refine hTake (i := 15) (v := ?_) rfl (by kernel_rfl) (by kernel_rfl) (by kernel_rfl) (by rfl) ?_ hH ?_
    rotate_left
    · intro W hW; (try dsimp only at hW); go_simp <;> with_reducible rfl
    simp only [Act.put, List.setIfInBounds_toArray, List.set_cons_zero, List.set_cons_succ]
    refine wpAnyH_ready (rs := [12]) (by kernel_rfl) (by simp) ?_
    refine AllReadyH.cons rfl (fun K hK => ?_) AllReadyH.nil
    go_simp
    refine (SS _ (o1.below hH.2.2)).mono ?_
    rintro e w7 ⟨a7, m7, c7, r7, p7, q7, rfl, b7⟩
    have hfd7 := fun W => fieldUz cr a7 m7 c7 r7 p7 q7 W
    go_wp2_with fail
    refine hK.out _ _ ?_ (fun hH => ?_)
    · exact ⟨keep_cell b7 hH.1, keep_cell b7 hH.2.1, hH.2.2.trans (b7.mono hH.2.2.size)⟩
    clear hK K
    refine hTake (i := 13) (v := ?_) rfl (by kernel_rfl) (by kernel_rfl) (by kernel_rfl) (by rfl) ?_ hH ?_
    rotate_left
    · intro W hW; (try dsimp only at hW); go_simp <;> with_reducible rfl
    simp only [Act.put, List.setIfInBounds_toArray, List.set_cons_zero, List.set_cons_succ]
    refine hTake (i := 16) (v := ?_) rfl (by kernel_rfl) (by kernel_rfl) (by kernel_rfl) (by rfl) ?_ hH ?_
    rotate_left
    · intro W hW; (try dsimp only at hW); go_simp <;> with_reducible rfl
    simp only [Act.put, List.setIfInBounds_toArray, List.set_cons_zero, List.set_cons_succ]
    refine hTake (i := 17) (v := ?_) rfl (by kernel_rfl) (by kernel_rfl) (by kernel_rfl) (by rfl) ?_ hH ?_
    rotate_left
    · intro W hW; (try dsimp only at hW); go_simp <;> with_reducible rfl
    simp only [Act.put, List.setIfInBounds_toArray, List.set_cons_zero, List.set_cons_succ]
    refine hTake (i := 18) (v := ?_) rfl (by kernel_rfl) (by kernel_rfl) (by kernel_rfl) (by rfl) ?_ hH ?_
    rotate_left
    · intro W hW; (try dsimp only at hW); go_simp <;> with_reducible rfl
    simp only [Act.put, List.setIfInBounds_toArray, List.set_cons_zero, List.set_cons_succ]
    refine wpAnyH_done (by kernel_rfl) ?_ _
    refine NoPanic.normal ?_
    have b9 := hH.2.2
    clear hH
    go_wp2
    go_ret
    exact ⟨rfl, bE.trans (b9.mono bE.size)⟩
  subst hr0
  obtain ⟨bh, bv, hg, hg', hbf, hT1, hF1, hT2⟩ := Ch.indexes_walk hR.out
  have hix : ix = Ch.ixOfL ls := by have := HIO.out hg; simp only [Prod.mk.injEq, true_and] at this; exact this
  subst hix
  rw [hbf] at BO
  simp only at BO
  have IL := fun (W : World) (hW : OwnU W (w2.alloc (.cells #[.int .i64 0, .slice a2 m2 c2] 29)).heap.size (.slice a3 m3 c3) m3 ls' (.slice r3 p3 q3) p3 rs) => implIxOf_any a3 m3 c3 ls' W (OwnU.lv hW hsm) hsm
  rw [Ch.ixOfR_ok hg'] at IL
  simp only at IL
  have TU1 := fun (W : World) (hW : W.ownsRow w1.heap.size 55 2 (.slice a2 m2 c2) m2 (hcells (Ch.ixOfL ls))) => implTurn_any a2 m2 c2 key key bh bv key has v (Ch.ixOfL ls) W (owns_cells hW) hm2
  rw [hT1] at TU1
  simp only at TU1
  have TU2 := fun (W : World) (B : Nat) (A : Option Addr) (m c : Nat) (hm : m ≤ 1048576) (hW : W.ownsRow B 55 2 (.slice A m c) m (hcells (Ch.ixOfL ls'))) => implTurn_any A m c key key has v key bh bv (Ch.ixOfL ls') W (owns_cells hW) hm
  rw [hT2] at TU2
  simp only at TU2
  have IF2 := fun (W : World) (A : Option Addr) (m c : Nat) (hW : CellsAt W A (m * 2) (hcells (Ch.ixOfL ls'))) (hm : m ≤ 1048576) => implIx_any A m c (Ch.ixOfL ls') W hW hm
  rw [hF1] at IF2
  have SM := fun (W : World) A A' m c m' c' (_ : True) h1 h2 hm hm' => implSameIx_any A A' m c m' c' (Ch.ixOfL ls') (Ch.ixOfL ls') W h1 h2 hm hm'
  have SN := fun (W : World) A A' m c m' c' (_ : True) h1 h2 hm hm' => implSameIx_any A A' m c m' c' (Ch.ixOfL ls) (Ch.ixOfL ls) W h1 h2 hm hm'
  rw [Ch.sameP_self] at SM SN
  generalize Ch.ixOfL ls = ix at *
  generalize Ch.ixOfL ls' = ix' at *
  clear SS HLV HIO hR hI hg hg' hbf hT1 hT2 hF1
  have oL0 := o1.below kP9
  have oP0 := owns_below o2 kP9
  have oU0 := o3.below kP9
  have bE0 := bE.trans (kP9.mono bE.size)
  have kP10 : Below (w3.alloc (.cells #[.int .i64 0, .slice a3 m3 c3, .slice r3 p3 q3] 33)).heap.size (w3.alloc (.cells #[.int .i64 0, .slice a3 m3 c3, .slice r3 p3 q3] 33)) ((w3.alloc (.cells #[.int .i64 0, .slice a3 m3 c3, .slice r3 p3 q3] 33)).alloc (.cells #[.int .i64 key, .bool has, .int .i64 v] 36)) := (Below.refl _ _).alloc (Nat.le_refl _) _
  have hP10 := heap_alloc_new (w3.alloc (.cells #[.int .i64 0, .slice a3 m3 c3, .slice r3 p3 q3] 33)) (.cells #[.int .i64 key, .bool has, .int .i64 v] 36)
  obtain ⟨P10, hP10e⟩ : ∃ P, Hid ((w3.alloc (.cells #[.int .i64 0, .slice a3 m3 c3, .slice r3 p3 q3] 33)).heap.size = P) := ⟨_, rfl⟩
  have hP10n : w3.heap.size + 1 = P10 := by rw [← hP10e.out]; simp
  rw [hP10e.out] at hP10
  have hP8 := block_below kP10 hP8
  have hP9 := block_below kP10 hP9
  have oL := oL0.below kP10
  have oP := owns_below oP0 kP10
  have oU := oU0.below kP10
  have bF := bE0.trans (kP10.mono bE0.size)
  clear oL0 oP0 oU0 bE0 o1 o2 o3 kP9
  subst hP10n
  go_upto_region 9 with fail
  clear x0 x1 y0 y1 y2 lx
  generalize ((w3.alloc (.cells #[.int .i64 0, .slice a3 m3 c3, .slice r3 p3 q3] 33)).alloc (.cells #[.int .i64 key, .bool has, .int .i64 v] 36)) = w4 at *
  obtain ⟨x0, x1, _, _⟩ := row2 hP8
  obtain ⟨y0, y1, y2⟩ := boxX3 hP9
  obtain ⟨z0, z1, z2⟩ := boxX3 hP10
  have lx := lt_of_cell x0
  have ly := lt_of_cell y0
  have lz := lt_of_cell z0
  go_cut [11] (fun s wx => ∃ P a2' m2' c2', s = .pointer (some ⟨P, 0, none⟩) ∧ TAx wx w4 P a2' m2' c2' ix')
  case first =>
    refine wp_region_noPanic ?_
    refine wp_region_held_drew (S := fun W' => W'.cell? ⟨w2.heap.size, 1, none⟩ = some (.slice a2 m2 c2) ∧ W'.cell? ⟨w3.heap.size + 1, 0, none⟩ = some (.int .i64 key) ∧ W'.cell? ⟨w3.heap.size + 1, 1, none⟩ = some (.bool has) ∧ W'.cell? ⟨w3.heap.size + 1, 2, none⟩ = some (.int .i64 v)) (by kernel_rfl) (⟨x1, z0, z1, z2⟩) (fun hH => ?_)
    refine hTake (i := 0) (v := ?_) rfl (by kernel_rfl) (by kernel_rfl) (by kernel_rfl) (by rfl) ?_ hH ?_
    rotate_left
    · intro W hW; (try dsimp only at hW); go_simp <;> with_reducible rfl
    simp only [Act.put, List.setIfInBounds_toArray, List.set_cons_zero, List.set_cons_succ]
    refine hTake (i := 1) (v := ?_) rfl (by kernel_rfl) (by kernel_rfl) (by kernel_rfl) (by rfl) ?_ hH ?_
    rotate_left
    · intro W hW; (try dsimp only at hW); go_simp <;> with_reducible rfl
    simp only [Act.put, List.setIfInBounds_toArray, List.set_cons_zero, List.set_cons_succ]
    refine hTake (i := 2) (v := ?_) rfl (by kernel_rfl) (by kernel_rfl) (by kernel_rfl) (by rfl) ?_ hH ?_
    rotate_left
    · intro W hW; (try dsimp only at hW); go_simp <;> with_reducible rfl
    simp only [Act.put, List.setIfInBounds_toArray, List.set_cons_zero, List.set_cons_succ]
    refine hTake (i := 3) (v := ?_) rfl (by kernel_rfl) (by kernel_rfl) (by kernel_rfl) (by rfl) ?_ hH ?_
    rotate_left
    · intro W hW; (try dsimp only at hW); go_simp <;> with_reducible rfl
    simp only [Act.put, List.setIfInBounds_toArray, List.set_cons_zero, List.set_cons_succ]
    refine hTake (i := 4) (v := ?_) rfl (by kernel_rfl) (by kernel_rfl) (by kernel_rfl) (by rfl) ?_ hH ?_
    rotate_left
    · intro W hW; (try dsimp only at hW); go_simp <;> with_reducible rfl
    simp only [Act.put, List.setIfInBounds_toArray, List.set_cons_zero, List.set_cons_succ]
    refine hTake (i := 6) (v := ?_) rfl (by kernel_rfl) (by kernel_rfl) (by kernel_rfl) (by rfl) ?_ hH ?_
    rotate_left
    · intro W hW; (try dsimp only at hW); go_simp <;> with_reducible rfl
    simp only [Act.put, List.setIfInBounds_toArray, List.set_cons_zero, List.set_cons_succ]
    have HS : Hid (∀ W', Below w4.heap.size w4 W' → W'.cell? ⟨w2.heap.size, 1, none⟩ = some (.slice a2 m2 c2) ∧ W'.cell? ⟨w3.heap.size + 1, 0, none⟩ = some (.int .i64 key) ∧ W'.cell? ⟨w3.heap.size + 1, 1, none⟩ = some (.bool has) ∧ W'.cell? ⟨w3.heap.size + 1, 2, none⟩ = some (.int .i64 v)) := fun W' hW => ⟨keep_cell hW x1, keep_cell hW z0, keep_cell hW z1, keep_cell hW z2⟩
    have bd : Below w4.heap.size w4 w4.drew := (Below.refl _ _).drew
    have zd := bd.size
    generalize w4.drew = wd at *
    refine wpAnyH_ready (rs := [5, 8]) (by kernel_rfl) (by simp) ?_
    refine AllReadyH.cons rfl (fun K hK => ?_) (AllReadyH.cons rfl (fun K hK => ?_) AllReadyH.nil)
    focus
      go_simp
      refine (BO wd (oL.below bd)).mono ?_
      rintro e v1 ⟨rfl, bv1⟩
      have Bv1 := bd.trans (bv1.mono bd.size)
      have zv1 := bv1.size
      go_wp2_with fail
      refine hK.out _ _ ?_ (fun hH => ?_)
      · exact HS.out _ Bv1
      clear hK K
      refine wpAnyH_ready (rs := [7, 8]) (by kernel_rfl) (by simp) ?_
      refine AllReadyH.cons rfl (fun K hK => ?_) (AllReadyH.cons rfl (fun K hK => ?_) AllReadyH.nil)
      focus
        go_simp
        refine (TU1 v1 (owns_below oP Bv1)).mono ?_
        rintro e v2 ⟨a2', m2', c2', rfl, hm2', o2', bv2⟩
        have L2 := owns_lt o2'
        have Bv2 := Bv1.trans (bv2.mono Bv1.size)
        have zv2 := bv2.size
        go_wp2_with fail
        refine hK.out _ _ ?_ (fun hH => ?_)
        · exact HS.out _ Bv2
        clear hK K
        refine wpAnyH_ready (rs := [8]) (by kernel_rfl) (by simp) ?_
        refine AllReadyH.cons rfl (fun K hK => ?_) AllReadyH.nil
        go_simp
        refine hK.out _ _ ?_ (fun hH => ?_)
        · exact HS.out _ (Bv2.alloc Bv2.size _)
        clear hK K
        have bal : Below v2.heap.size v2 (v2.alloc (.cells #[.int .i64 0, .slice none 0 0] 29)) := (Below.refl _ _).alloc (Nat.le_refl _) _
        have hPA := Bv2.size
        have Bx3W := Bv2.alloc Bv2.size (.cells #[.int .i64 0, .slice none 0 0] 29)
        have HZ : Hid ((v2.alloc (.cells #[.int .i64 0, .slice none 0 0] 29)).heap.size = v2.heap.size + 1) := by show _ = _; simp
        have bp0 : (v2.alloc (.cells #[.int .i64 0, .slice none 0 0] 29)).cell? ⟨v2.heap.size, 0, none⟩ = some (.int .i64 0) := by simp [go_sem]
        have bq0 : (v2.alloc (.cells #[.int .i64 0, .slice none 0 0] 29)).frozen? ⟨v2.heap.size, 0, none⟩ = false := by simp [go_sem]
        have bp1 : (v2.alloc (.cells #[.int .i64 0, .slice none 0 0] 29)).cell? ⟨v2.heap.size, 1, none⟩ = some (.slice none 0 0) := by simp [go_sem]
        have bq1 : (v2.alloc (.cells #[.int .i64 0, .slice none 0 0] 29)).frozen? ⟨v2.heap.size, 1, none⟩ = false := by simp [go_sem]
        have o2' := owns_below o2' bal
        generalize v2.alloc (.cells #[.int .i64 0, .slice none 0 0] 29) = x3W at *
        have lPz := lt_of_cell bp0
        refine wpAnyH_ready (rs := [9]) (by kernel_rfl) (by simp) ?_
        refine AllReadyH.cons rfl (fun K hK => ?_) AllReadyH.nil
        go_simp
        refine hK.out _ _ ?_ (fun hH => ?_)
        · exact HS.out _ ((Bx3W.setCell (p := ⟨v2.heap.size, 0, none⟩) hPA (.int .i64 0)).setCell (p := ⟨v2.heap.size, 1, none⟩) hPA (.slice a2' m2' c2'))
        clear hK K
        refine wpAnyH_done (by kernel_rfl) ?_ _
        refine NoPanic.normal ?_
        go_wp2_with fail
        go_meet
        have zal := HZ.out
        refine ⟨v2.heap.size, a2', m2', c2', rfl, hPA, by simp [World.setCell] <;> omega, hm2', by simp [go_sem, bp0, bp1], by simp [go_sem, bp0, bp1], ?_, fun g hg => by have := L2 g hg; omega, ((Bx3W.setCell (p := ⟨v2.heap.size, 0, none⟩) hPA (.int .i64 0)).setCell (p := ⟨v2.heap.size, 1, none⟩) hPA (.slice a2' m2' c2'))⟩
        exact owns_otherX (owns_otherX (owns_base o2' (by omega)) (fun g hg => by have := L2 g hg; omega) _) (fun g hg => by have := L2 g hg; omega) _
      focus
        go_simp
        refine hK.out _ _ ?_ (fun hH => ?_)
        · exact HS.out _ (Bv1.alloc Bv1.size _)
        clear hK K
        have bal : Below v1.heap.size v1 (v1.alloc (.cells #[.int .i64 0, .slice none 0 0] 29)) := (Below.refl _ _).alloc (Nat.le_refl _) _
        have hPA := Bv1.size
        have Bx4W := Bv1.alloc Bv1.size (.cells #[.int .i64 0, .slice none 0 0] 29)
        have HZ : Hid ((v1.alloc (.cells #[.int .i64 0, .slice none 0 0] 29)).heap.size = v1.heap.size + 1) := by show _ = _; simp
        have bp0 : (v1.alloc (.cells #[.int .i64 0, .slice none 0 0] 29)).cell? ⟨v1.heap.size, 0, none⟩ = some (.int .i64 0) := by simp [go_sem]
        have bq0 : (v1.alloc (.cells #[.int .i64 0, .slice none 0 0] 29)).frozen? ⟨v1.heap.size, 0, none⟩ = false := by simp [go_sem]
        have bp1 : (v1.alloc (.cells #[.int .i64 0, .slice none 0 0] 29)).cell? ⟨v1.heap.size, 1, none⟩ = some (.slice none 0 0) := by simp [go_sem]
        have bq1 : (v1.alloc (.cells #[.int .i64 0, .slice none 0 0] 29)).frozen? ⟨v1.heap.size, 1, none⟩ = false := by simp [go_sem]
        generalize v1.alloc (.cells #[.int .i64 0, .slice none 0 0] 29) = x4W at *
        refine wpAnyH_ready (rs := [7]) (by kernel_rfl) (by simp) ?_
        refine AllReadyH.cons rfl (fun K hK => ?_) AllReadyH.nil
        go_simp
        refine (TU1 x4W (owns_below oP Bx4W)).mono ?_
        rintro e v5 ⟨a2', m2', c2', rfl, hm2', o2', bv5⟩
        have L2 := owns_lt o2'
        have Bv5 := Bx4W.trans (bv5.mono Bx4W.size)
        have zv5 := bv5.size
        have lPv5 := lt_of_cell bp0
        have bq0 := ((bcell bv5).2 _ _ lPv5).trans bq0
        have bq1 := ((bcell bv5).2 _ _ lPv5).trans bq1
        have bp0 := keep_cell bv5 bp0
        have bp1 := keep_cell bv5 bp1
        go_wp2_with fail
        refine hK.out _ _ ?_ (fun hH => ?_)
        · exact HS.out _ Bv5
        clear hK K
        have lPz := lt_of_cell bp0
        refine wpAnyH_ready (rs := [9]) (by kernel_rfl) (by simp) ?_
        refine AllReadyH.cons rfl (fun K hK => ?_) AllReadyH.nil
        go_simp
        refine hK.out _ _ ?_ (fun hH => ?_)
        · exact HS.out _ ((Bv5.setCell (p := ⟨v1.heap.size, 0, none⟩) hPA (.int .i64 0)).setCell (p := ⟨v1.heap.size, 1, none⟩) hPA (.slice a2' m2' c2'))
        clear hK K
        refine wpAnyH_done (by kernel_rfl) ?_ _
        refine NoPanic.normal ?_
        go_wp2_with fail
        go_meet
        have zal := HZ.out
        refine ⟨v1.heap.size, a2', m2', c2', rfl, hPA, by simp [World.setCell] <;> omega, hm2', by simp [go_sem, bp0, bp1], by simp [go_sem, bp0, bp1], ?_, fun g hg => by have := L2 g hg; omega, ((Bv5.setCell (p := ⟨v1.heap.size, 0, none⟩) hPA (.int .i64 0)).setCell (p := ⟨v1.heap.size, 1, none⟩) hPA (.slice a2' m2' c2'))⟩
        exact owns_otherX (owns_otherX (owns_base o2' (by omega)) (fun g hg => by have := L2 g hg; omega) _) (fun g hg => by have := L2 g hg; omega) _
    focus
      go_simp
      refine hK.out _ _ ?_ (fun hH => ?_)
      · exact HS.out _ (bd.alloc bd.size _)
      clear hK K
      have bal : Below wd.heap.size wd (wd.alloc (.cells #[.int .i64 0, .slice none 0 0] 29)) := (Below.refl _ _).alloc (Nat.le_refl _) _
      have hPA := bd.size
      have Bx6W := bd.alloc bd.size (.cells #[.int .i64 0, .slice none 0 0] 29)
      have HZ : Hid ((wd.alloc (.cells #[.int .i64 0, .slice none 0 0] 29)).heap.size = wd.heap.size + 1) := by show _ = _; simp
      have bp0 : (wd.alloc (.cells #[.int .i64 0, .slice none 0 0] 29)).cell? ⟨wd.heap.size, 0, none⟩ = some (.int .i64 0) := by simp [go_sem]
      have bq0 : (wd.alloc (.cells #[.int .i64 0, .slice none 0 0] 29)).frozen? ⟨wd.heap.size, 0, none⟩ = false := by simp [go_sem]
      have bp1 : (wd.alloc (.cells #[.int .i64 0, .slice none 0 0] 29)).cell? ⟨wd.heap.size, 1, none⟩ = some (.slice none 0 0) := by simp [go_sem]
      have bq1 : (wd.alloc (.cells #[.int .i64 0, .slice none 0 0] 29)).frozen? ⟨wd.heap.size, 1, none⟩ = false := by simp [go_sem]
      generalize wd.alloc (.cells #[.int .i64 0, .slice none 0 0] 29) = x6W at *
      refine wpAnyH_ready (rs := [5]) (by kernel_rfl) (by simp) ?_
      refine AllReadyH.cons rfl (fun K hK => ?_) AllReadyH.nil
      go_simp
      refine (BO x6W (oL.below Bx6W)).mono ?_
      rintro e v7 ⟨rfl, bv7⟩
      have Bv7 := Bx6W.trans (bv7.mono Bx6W.size)
      have zv7 := bv7.size
      have lPv7 := lt_of_cell bp0
      have bq0 := ((bcell bv7).2 _ _ lPv7).trans bq0
      have bq1 := ((bcell bv7).2 _ _ lPv7).trans bq1
      have bp0 := keep_cell bv7 bp0
      have bp1 := keep_cell bv7 bp1
      go_wp2_with fail
      refine hK.out _ _ ?_ (fun hH => ?_)
      · exact HS.out _ Bv7
      clear hK K
      refine wpAnyH_ready (rs := [7]) (by kernel_rfl) (by simp) ?_
      refine AllReadyH.cons rfl (fun K hK => ?_) AllReadyH.nil
      go_simp
      refine (TU1 v7 (owns_below oP Bv7)).mono ?_
      rintro e v8 ⟨a2', m2', c2', rfl, hm2', o2', bv8⟩
      have L2 := owns_lt o2'
      have Bv8 := Bv7.trans (bv8.mono Bv7.size)
      have zv8 := bv8.size
      have lPv8 := lt_of_cell bp0
      have bq0 := ((bcell bv8).2 _ _ lPv8).trans bq0
      have bq1 := ((bcell bv8).2 _ _ lPv8).trans bq1
      have bp0 := keep_cell bv8 bp0
      have bp1 := keep_cell bv8 bp1
      go_wp2_with fail
      refine hK.out _ _ ?_ (fun hH => ?_)
      · exact HS.out _ Bv8
      clear hK K
      have lPz := lt_of_cell bp0
      refine wpAnyH_ready (rs := [9]) (by kernel_rfl) (by simp) ?_
      refine AllReadyH.cons rfl (fun K hK => ?_) AllReadyH.nil
      go_simp
      refine hK.out _ _ ?_ (fun hH => ?_)
      · exact HS.out _ ((Bv8.setCell (p := ⟨wd.heap.size, 0, none⟩) hPA (.int .i64 0)).setCell (p := ⟨wd.heap.size, 1, none⟩) hPA (.slice a2' m2' c2'))
      clear hK K
      refine wpAnyH_done (by kernel_rfl) ?_ _
      refine NoPanic.normal ?_
      go_wp2_with fail
      go_meet
      have zal := HZ.out
      refine ⟨wd.heap.size, a2', m2', c2', rfl, hPA, by simp [World.setCell] <;> omega, hm2', by simp [go_sem, bp0, bp1], by simp [go_sem, bp0, bp1], ?_, fun g hg => by have := L2 g hg; omega, ((Bv8.setCell (p := ⟨wd.heap.size, 0, none⟩) hPA (.int .i64 0)).setCell (p := ⟨wd.heap.size, 1, none⟩) hPA (.slice a2' m2' c2'))⟩
      exact owns_otherX (owns_otherX (owns_base o2' (by omega)) (fun g hg => by have := L2 g hg; omega) _) (fun g hg => by have := L2 g hg; omega) _
  case rest =>
    obtain ⟨P11, a5, m5, c5, rfl, ⟨hPA5, hPB5, hm5, t0, t1, o5, hne5, b5⟩⟩ := hcut
    obtain ⟨w5, hwn⟩ : ∃ x : World, x = wc := ⟨_, rfl⟩
    subst hwn
    have hP8 := block_below b5 hP8
    have hP9 := block_below b5 hP9
    have hP10 := block_below b5 hP10
    have oL := oL.below b5
    have oI := owns_below oP b5
    have oU := oU.below b5
    have bF := bF.trans (b5.mono bF.size)
    clear x0 x1 y0 y1 y2 z0 z1 z2 lx ly lz TU1
    obtain ⟨x0, x1, _, _⟩ := row2 hP8
    obtain ⟨y0, y1, y2⟩ := boxX3 hP9
    obtain ⟨z0, z1, z2⟩ := boxX3 hP10
    have lx := lt_of_cell x0
    have ly := lt_of_cell y0
    have lz := lt_of_cell z0
    have TU3 := fun (W : World) (hW : W.ownsRow w4.heap.size 55 2 (.slice a5 m5 c5) m5 (hcells ix')) => TU2 W _ _ _ _ hm5 hW
    have oP := o5
    go_upto_region 10 with fail
    go_cut [12] (fun s wx => ∃ P a2' m2' c2', s = .pointer (some ⟨P, 0, none⟩) ∧ TAx wx w5 P a2' m2' c2' ix)
    case first =>
      refine wp_region_noPanic ?_
      refine wp_region_held_drew (S := fun W' => W'.cell? ⟨P11, 1, none⟩ = some (.slice a5 m5 c5) ∧ W'.cell? ⟨w3.heap.size + 1, 0, none⟩ = some (.int .i64 key) ∧ W'.cell? ⟨w3.heap.size + 1, 1, none⟩ = some (.bool has) ∧ W'.cell? ⟨w3.heap.size + 1, 2, none⟩ = some (.int .i64 v)) (by kernel_rfl) (⟨t1, z0, z1, z2⟩) (fun hH => ?_)
      refine hTake (i := 0) (v := ?_) rfl (by kernel_rfl) (by kernel_rfl) (by kernel_rfl) (by rfl) ?_ hH ?_
      rotate_left
      · intro W hW; (try dsimp only at hW); go_simp <;> with_reducible rfl
      simp only [Act.put, List.setIfInBounds_toArray, List.set_cons_zero, List.set_cons_succ]
      refine hTake (i := 1) (v := ?_) rfl (by kernel_rfl) (by kernel_rfl) (by kernel_rfl) (by rfl) ?_ hH ?_
      rotate_left
      · intro W hW; (try dsimp only at hW); go_simp <;> with_reducible rfl
      simp only [Act.put, List.setIfInBounds_toArray, List.set_cons_zero, List.set_cons_succ]
      refine hTake (i := 2) (v := ?_) rfl (by kernel_rfl) (by kernel_rfl) (by kernel_rfl) (by rfl) ?_ hH ?_
      rotate_left
      · intro W hW; (try dsimp only at hW); go_simp <;> with_reducible rfl
      simp only [Act.put, List.setIfInBounds_toArray, List.set_cons_zero, List.set_cons_succ]
      refine hTake (i := 3) (v := ?_) rfl (by kernel_rfl) (by kernel_rfl) (by kernel_rfl) (by rfl) ?_ hH ?_
      rotate_left
      · intro W hW; (try dsimp only at hW); go_simp <;> with_reducible rfl
      simp only [Act.put, List.setIfInBounds_toArray, List.set_cons_zero, List.set_cons_succ]
      refine hTake (i := 4) (v := ?_) rfl (by kernel_rfl) (by kernel_rfl) (by kernel_rfl) (by rfl) ?_ hH ?_
      rotate_left
      · intro W hW; (try dsimp only at hW); go_simp <;> with_reducible rfl
      simp only [Act.put, List.setIfInBounds_toArray, List.set_cons_zero, List.set_cons_succ]
      refine hTake (i := 5) (v := ?_) rfl (by kernel_rfl) (by kernel_rfl) (by kernel_rfl) (by rfl) ?_ hH ?_
      rotate_left
      · intro W hW; (try dsimp only at hW); go_simp <;> with_reducible rfl
      simp only [Act.put, List.setIfInBounds_toArray, List.set_cons_zero, List.set_cons_succ]
      have HS : Hid (∀ W', Below w5.heap.size w5 W' → W'.cell? ⟨P11, 1, none⟩ = some (.slice a5 m5 c5) ∧ W'.cell? ⟨w3.heap.size + 1, 0, none⟩ = some (.int .i64 key) ∧ W'.cell? ⟨w3.heap.size + 1, 1, none⟩ = some (.bool has) ∧ W'.cell? ⟨w3.heap.size + 1, 2, none⟩ = some (.int .i64 v)) := fun W' hW => ⟨keep_cell hW t1, keep_cell hW z0, keep_cell hW z1, keep_cell hW z2⟩
      have bd : Below w5.heap.size w5 w5.drew := (Below.refl _ _).drew
      have zd := bd.size
      generalize w5.drew = wd at *
      refine wpAnyH_ready (rs := [6, 8]) (by kernel_rfl) (by simp) ?_
      refine AllReadyH.cons rfl (fun K hK => ?_) (AllReadyH.cons rfl (fun K hK => ?_) AllReadyH.nil)
      focus
        go_simp
        refine (BO wd (oL.below bd)).mono ?_
        rintro e v1 ⟨rfl, bv1⟩
        have Bv1 := bd.trans (bv1.mono bd.size)
        have zv1 := bv1.size
        go_wp2_with fail
        refine hK.out _ _ ?_ (fun hH => ?_)
        · exact HS.out _ Bv1
        clear hK K
        refine wpAnyH_ready (rs := [7, 8]) (by kernel_rfl) (by simp) ?_
        refine AllReadyH.cons rfl (fun K hK => ?_) (AllReadyH.cons rfl (fun K hK => ?_) AllReadyH.nil)
        focus
          go_simp
          refine (TU3 v1 (owns_below oP Bv1)).mono ?_
          rintro e v2 ⟨a2', m2', c2', rfl, hm2', o2', bv2⟩
          have L2 := owns_lt o2'
          have Bv2 := Bv1.trans (bv2.mono Bv1.size)
          have zv2 := bv2.size
          go_wp2_with fail
          refine hK.out _ _ ?_ (fun hH => ?_)
          · exact HS.out _ Bv2
          clear hK K
          refine wpAnyH_ready (rs := [8]) (by kernel_rfl) (by simp) ?_
          refine AllReadyH.cons rfl (fun K hK => ?_) AllReadyH.nil
          go_simp
          refine hK.out _ _ ?_ (fun hH => ?_)
          · exact HS.out _ (Bv2.alloc Bv2.size _)
          clear hK K
          have bal : Below v2.heap.size v2 (v2.alloc (.cells #[.int .i64 0, .slice none 0 0] 29)) := (Below.refl _ _).alloc (Nat.le_refl _) _
          have hPA := Bv2.size
          have Bx3W := Bv2.alloc Bv2.size (.cells #[.int .i64 0, .slice none 0 0] 29)
          have HZ : Hid ((v2.alloc (.cells #[.int .i64 0, .slice none 0 0] 29)).heap.size = v2.heap.size + 1) := by show _ = _; simp
          have bp0 : (v2.alloc (.cells #[.int .i64 0, .slice none 0 0] 29)).cell? ⟨v2.heap.size, 0, none⟩ = some (.int .i64 0) := by simp [go_sem]
          have bq0 : (v2.alloc (.cells #[.int .i64 0, .slice none 0 0] 29)).frozen? ⟨v2.heap.size, 0, none⟩ = false := by simp [go_sem]
          have bp1 : (v2.alloc (.cells #[.int .i64 0, .slice none 0 0] 29)).cell? ⟨v2.heap.size, 1, none⟩ = some (.slice none 0 0) := by simp [go_sem]
          have bq1 : (v2.alloc (.cells #[.int .i64 0, .slice none 0 0] 29)).frozen? ⟨v2.heap.size, 1, none⟩ = false := by simp [go_sem]
          have o2' := owns_below o2' bal
          generalize v2.alloc (.cells #[.int .i64 0, .slice none 0 0] 29) = x3W at *
          have lPz := lt_of_cell bp0
          refine wpAnyH_ready (rs := [9]) (by kernel_rfl) (by simp) ?_
          refine AllReadyH.cons rfl (fun K hK => ?_) AllReadyH.nil
          go_simp
          refine hK.out _ _ ?_ (fun hH => ?_)
          · exact HS.out _ ((Bx3W.setCell (p := ⟨v2.heap.size, 0, none⟩) hPA (.int .i64 0)).setCell (p := ⟨v2.heap.size, 1, none⟩) hPA (.slice a2' m2' c2'))
          clear hK K
          refine wpAnyH_done (by kernel_rfl) ?_ _
          refine NoPanic.normal ?_
          go_wp2_with fail
          go_meet
          have zal := HZ.out
          refine ⟨v2.heap.size, a2', m2', c2', rfl, hPA, by simp [World.setCell] <;> omega, hm2', by simp [go_sem, bp0, bp1], by simp [go_sem, bp0, bp1], ?_, fun g hg => by have := L2 g hg; omega, ((Bx3W.setCell (p := ⟨v2.heap.size, 0, none⟩) hPA (.int .i64 0)).setCell (p := ⟨v2.heap.size, 1, none⟩) hPA (.slice a2' m2' c2'))⟩
          exact owns_otherX (owns_otherX (owns_base o2' (by omega)) (fun g hg => by have := L2 g hg; omega) _) (fun g hg => by have := L2 g hg; omega) _
        focus
          go_simp
          refine hK.out _ _ ?_ (fun hH => ?_)
          · exact HS.out _ (Bv1.alloc Bv1.size _)
          clear hK K
          have bal : Below v1.heap.size v1 (v1.alloc (.cells #[.int .i64 0, .slice none 0 0] 29)) := (Below.refl _ _).alloc (Nat.le_refl _) _
          have hPA := Bv1.size
          have Bx4W := Bv1.alloc Bv1.size (.cells #[.int .i64 0, .slice none 0 0] 29)
          have HZ : Hid ((v1.alloc (.cells #[.int .i64 0, .slice none 0 0] 29)).heap.size = v1.heap.size + 1) := by show _ = _; simp
          have bp0 : (v1.alloc (.cells #[.int .i64 0, .slice none 0 0] 29)).cell? ⟨v1.heap.size, 0, none⟩ = some (.int .i64 0) := by simp [go_sem]
          have bq0 : (v1.alloc (.cells #[.int .i64 0, .slice none 0 0] 29)).frozen? ⟨v1.heap.size, 0, none⟩ = false := by simp [go_sem]
          have bp1 : (v1.alloc (.cells #[.int .i64 0, .slice none 0 0] 29)).cell? ⟨v1.heap.size, 1, none⟩ = some (.slice none 0 0) := by simp [go_sem]
          have bq1 : (v1.alloc (.cells #[.int .i64 0, .slice none 0 0] 29)).frozen? ⟨v1.heap.size, 1, none⟩ = false := by simp [go_sem]
          generalize v1.alloc (.cells #[.int .i64 0, .slice none 0 0] 29) = x4W at *
          refine wpAnyH_ready (rs := [7]) (by kernel_rfl) (by simp) ?_
          refine AllReadyH.cons rfl (fun K hK => ?_) AllReadyH.nil
          go_simp
          refine (TU3 x4W (owns_below oP Bx4W)).mono ?_
          rintro e v5 ⟨a2', m2', c2', rfl, hm2', o2', bv5⟩
          have L2 := owns_lt o2'
          have Bv5 := Bx4W.trans (bv5.mono Bx4W.size)
          have zv5 := bv5.size
          have lPv5 := lt_of_cell bp0
          have bq0 := ((bcell bv5).2 _ _ lPv5).trans bq0
          have bq1 := ((bcell bv5).2 _ _ lPv5).trans bq1
          have bp0 := keep_cell bv5 bp0
          have bp1 := keep_cell bv5 bp1
          go_wp2_with fail
          refine hK.out _ _ ?_ (fun hH => ?_)
          · exact HS.out _ Bv5
          clear hK K
          have lPz := lt_of_cell bp0
          refine wpAnyH_ready (rs := [9]) (by kernel_rfl) (by simp) ?_
          refine AllReadyH.cons rfl (fun K hK => ?_) AllReadyH.nil
          go_simp
          refine hK.out _ _ ?_ (fun hH => ?_)
          · exact HS.out _ ((Bv5.setCell (p := ⟨v1.heap.size, 0, none⟩) hPA (.int .i64 0)).setCell (p := ⟨v1.heap.size, 1, none⟩) hPA (.slice a2' m2' c2'))
          clear hK K
          refine wpAnyH_done (by kernel_rfl) ?_ _
          refine NoPanic.normal ?_
          go_wp2_with fail
          go_meet
          have zal := HZ.out
          refine ⟨v1.heap.size, a2', m2', c2', rfl, hPA, by simp [World.setCell] <;> omega, hm2', by simp [go_sem, bp0, bp1], by simp [go_sem, bp0, bp1], ?_, fun g hg => by have := L2 g hg; omega, ((Bv5.setCell (p := ⟨v1.heap.size, 0, none⟩) hPA (.int .i64 0)).setCell (p := ⟨v1.heap.size, 1, none⟩) hPA (.slice a2' m2' c2'))⟩
          exact owns_otherX (owns_otherX (owns_base o2' (by omega)) (fun g hg => by have := L2 g hg; omega) _) (fun g hg => by have := L2 g hg; omega) _
      focus
        go_simp
        refine hK.out _ _ ?_ (fun hH => ?_)
        · exact HS.out _ (bd.alloc bd.size _)
        clear hK K
        have bal : Below wd.heap.size wd (wd.alloc (.cells #[.int .i64 0, .slice none 0 0] 29)) := (Below.refl _ _).alloc (Nat.le_refl _) _
        have hPA := bd.size
        have Bx6W := bd.alloc bd.size (.cells #[.int .i64 0, .slice none 0 0] 29)
        have HZ : Hid ((wd.alloc (.cells #[.int .i64 0, .slice none 0 0] 29)).heap.size = wd.heap.size + 1) := by show _ = _; simp
        have bp0 : (wd.alloc (.cells #[.int .i64 0, .slice none 0 0] 29)).cell? ⟨wd.heap.size, 0, none⟩ = some (.int .i64 0) := by simp [go_sem]
        have bq0 : (wd.alloc (.cells #[.int .i64 0, .slice none 0 0] 29)).frozen? ⟨wd.heap.size, 0, none⟩ = false := by simp [go_sem]
        have bp1 : (wd.alloc (.cells #[.int .i64 0, .slice none 0 0] 29)).cell? ⟨wd.heap.size, 1, none⟩ = some (.slice none 0 0) := by simp [go_sem]
        have bq1 : (wd.alloc (.cells #[.int .i64 0, .slice none 0 0] 29)).frozen? ⟨wd.heap.size, 1, none⟩ = false := by simp [go_sem]
        generalize wd.alloc (.cells #[.int .i64 0, .slice none 0 0] 29) = x6W at *
        refine wpAnyH_ready (rs := [6]) (by kernel_rfl) (by simp) ?_
        refine AllReadyH.cons rfl (fun K hK => ?_) AllReadyH.nil
        go_simp
        refine (BO x6W (oL.below Bx6W)).mono ?_
        rintro e v7 ⟨rfl, bv7⟩
        have Bv7 := Bx6W.trans (bv7.mono Bx6W.size)
        have zv7 := bv7.size
        have lPv7 := lt_of_cell bp0
        have bq0 := ((bcell bv7).2 _ _ lPv7).trans bq0
        have bq1 := ((bcell bv7).2 _ _ lPv7).trans bq1
        have bp0 := keep_cell bv7 bp0
        have bp1 := keep_cell bv7 bp1
        go_wp2_with fail
        refine hK.out _ _ ?_ (fun hH => ?_)
        · exact HS.out _ Bv7
        clear hK K
        refine wpAnyH_ready (rs := [7]) (by kernel_rfl) (by simp) ?_
        refine AllReadyH.cons rfl (fun K hK => ?_) AllReadyH.nil
        go_simp
        refine (TU3 v7 (owns_below oP Bv7)).mono ?_
        rintro e v8 ⟨a2', m2', c2', rfl, hm2', o2', bv8⟩
        have L2 := owns_lt o2'
        have Bv8 := Bv7.trans (bv8.mono Bv7.size)
        have zv8 := bv8.size
        have lPv8 := lt_of_cell bp0
        have bq0 := ((bcell bv8).2 _ _ lPv8).trans bq0
        have bq1 := ((bcell bv8).2 _ _ lPv8).trans bq1
        have bp0 := keep_cell bv8 bp0
        have bp1 := keep_cell bv8 bp1
        go_wp2_with fail
        refine hK.out _ _ ?_ (fun hH => ?_)
        · exact HS.out _ Bv8
        clear hK K
        have lPz := lt_of_cell bp0
        refine wpAnyH_ready (rs := [9]) (by kernel_rfl) (by simp) ?_
        refine AllReadyH.cons rfl (fun K hK => ?_) AllReadyH.nil
        go_simp
        refine hK.out _ _ ?_ (fun hH => ?_)
        · exact HS.out _ ((Bv8.setCell (p := ⟨wd.heap.size, 0, none⟩) hPA (.int .i64 0)).setCell (p := ⟨wd.heap.size, 1, none⟩) hPA (.slice a2' m2' c2'))
        clear hK K
        refine wpAnyH_done (by kernel_rfl) ?_ _
        refine NoPanic.normal ?_
        go_wp2_with fail
        go_meet
        have zal := HZ.out
        refine ⟨wd.heap.size, a2', m2', c2', rfl, hPA, by simp [World.setCell] <;> omega, hm2', by simp [go_sem, bp0, bp1], by simp [go_sem, bp0, bp1], ?_, fun g hg => by have := L2 g hg; omega, ((Bv8.setCell (p := ⟨wd.heap.size, 0, none⟩) hPA (.int .i64 0)).setCell (p := ⟨wd.heap.size, 1, none⟩) hPA (.slice a2' m2' c2'))⟩
        exact owns_otherX (owns_otherX (owns_base o2' (by omega)) (fun g hg => by have := L2 g hg; omega) _) (fun g hg => by have := L2 g hg; omega) _
    case rest =>
      obtain ⟨P12, a6, m6, c6, rfl, ⟨hPA6, hPB6, hm6, u0, u1, o6, hne6, b6⟩⟩ := hcut
      obtain ⟨w6, hwn⟩ : ∃ x : World, x = wc := ⟨_, rfl⟩
      subst hwn
      have t0 := keep_cell b6 t0
      have t1 := keep_cell b6 t1
      have x1 := keep_cell b6 x1
      have y1 := keep_cell b6 y1
      have o1 := oL.below b6
      have o2 := owns_below oI b6
      have o3 := oU.below b6
      have o5 := owns_below o5 b6
      have bF := bF.trans (b6.mono bF.size)
      have l1 := lt_of_cell t0
      have l2 := lt_of_cell x1
      have l3 := lt_of_cell y1
      have l4 := lt_of_cell u0
      have IF := fun W hW => IF2 W a5 m5 c5 hW hm5
      clear x0 y0 y2 z0 z1 z2 lx ly lz hP8 hP9 hP10 TU2 TU3 BO IF2 oL oI oU oP b5 b6
      go_wp2_with fail
      refine wp_region_noPanic ?_
      refine wp_region_held_drew (S := fun W' => W'.cell? ⟨P11, 0, none⟩ = some (.int .i64 0) ∧ W'.cell? ⟨P11, 1, none⟩ = some (.slice a5 m5 c5) ∧ W'.cell? ⟨w3.heap.size, 1, none⟩ = some (.slice a3 m3 c3) ∧ W'.cell? ⟨P12, 0, none⟩ = some (.int .i64 0) ∧ W'.cell? ⟨P12, 1, none⟩ = some (.slice a6 m6 c6) ∧ W'.cell? ⟨w2.heap.size, 1, none⟩ = some (.slice a2 m2 c2) ∧ Below w6.heap.size w6 W') (by kernel_rfl) (⟨t0, t1, y1, u0, u1, x1, (Below.refl _ _).drew⟩) (fun hH => ?_)
      refine hTake (i := 0) (v := ?_) rfl (by kernel_rfl) (by kernel_rfl) (by kernel_rfl) (by rfl) ?_ hH ?_
      rotate_left
      · intro W hW; (try dsimp only at hW); go_simp <;> with_reducible rfl
      simp only [Act.put, List.setIfInBounds_toArray, List.set_cons_zero, List.set_cons_succ]
      refine hTake (i := 1) (v := ?_) rfl (by kernel_rfl) (by kernel_rfl) (by kernel_rfl) (by rfl) ?_ hH ?_
      rotate_left
      · intro W hW; (try dsimp only at hW); go_simp <;> with_reducible rfl
      simp only [Act.put, List.setIfInBounds_toArray, List.set_cons_zero, List.set_cons_succ]
      refine hTake (i := 2) (v := ?_) rfl (by kernel_rfl) (by kernel_rfl) (by kernel_rfl) (by rfl) ?_ hH ?_
      rotate_left
      · intro W hW; (try dsimp only at hW); go_simp <;> with_reducible rfl
      simp only [Act.put, List.setIfInBounds_toArray, List.set_cons_zero, List.set_cons_succ]
      refine hTake (i := 3) (v := ?_) rfl (by kernel_rfl) (by kernel_rfl) (by kernel_rfl) (by rfl) ?_ hH ?_
      rotate_left
      · intro W hW; (try dsimp only at hW); go_simp <;> with_reducible rfl
      simp only [Act.put, List.setIfInBounds_toArray, List.set_cons_zero, List.set_cons_succ]
      refine hTake (i := 4) (v := ?_) rfl (by kernel_rfl) (by kernel_rfl) (by kernel_rfl) (by rfl) ?_ hH ?_
      rotate_left
      · intro W hW; (try dsimp only at hW); go_simp <;> with_reducible rfl
      simp only [Act.put, List.setIfInBounds_toArray, List.set_cons_zero, List.set_cons_succ]
      refine hTake (i := 5) (v := ?_) rfl (by kernel_rfl) (by kernel_rfl) (by kernel_rfl) (by rfl) ?_ hH ?_
      rotate_left
      · intro W hW; (try dsimp only at hW); go_simp <;> with_reducible rfl
      simp only [Act.put, List.setIfInBounds_toArray, List.set_cons_zero, List.set_cons_succ]
      refine hTake (i := 6) (v := ?_) rfl (by kernel_rfl) (by kernel_rfl) (by kernel_rfl) (by rfl) ?_ hH ?_
      rotate_left
      · intro W hW; (try dsimp only at hW); go_simp <;> with_reducible rfl
      simp only [Act.put, List.setIfInBounds_toArray, List.set_cons_zero, List.set_cons_succ]
      refine hTake (i := 7) (v := ?_) rfl (by kernel_rfl) (by kernel_rfl) (by kernel_rfl) (by rfl) ?_ hH ?_
      rotate_left
      · intro W hW; (try dsimp only at hW); go_simp <;> with_reducible rfl
      simp only [Act.put, List.setIfInBounds_toArray, List.set_cons_zero, List.set_cons_succ]
      refine wpAnyH_ready (rs := [8]) (by kernel_rfl) (by simp) ?_
      refine AllReadyH.cons rfl (fun K hK => ?_) AllReadyH.nil
      go_simp
      refine (IL _ (o3.below hH.2.2.2.2.2.2)).mono ?_
      rintro e w7 ⟨a7, m7, c7, rfl, hm7, o7, b7⟩
      have hfd7 := fun W => (fieldPr 0 a7 m7 c7 W).2
      go_wp2_with fail
      refine hK.out _ _ ?_ (fun hH => ?_)
      · exact ⟨keep_cell b7 hH.1, keep_cell b7 hH.2.1, keep_cell b7 hH.2.2.1, keep_cell b7 hH.2.2.2.1, keep_cell b7 hH.2.2.2.2.1, keep_cell b7 hH.2.2.2.2.2.1, hH.2.2.2.2.2.2.trans (b7.mono hH.2.2.2.2.2.2.size)⟩
      clear hK K
      refine hTake (i := 9) (v := ?_) rfl (by kernel_rfl) (by kernel_rfl) (by kernel_rfl) (by rfl) ?_ hH ?_
      rotate_left
      · intro W hW; (try dsimp only at hW); go_simp <;> with_reducible rfl
      simp only [Act.put, List.setIfInBounds_toArray, List.set_cons_zero, List.set_cons_succ]
      refine wpAnyH_ready (rs := [10]) (by kernel_rfl) (by simp) ?_
      refine AllReadyH.cons rfl (fun K hK => ?_) AllReadyH.nil
      go_simp
      refine (SM _ _ _ _ _ _ _ trivial (owns_cells (owns_below o5 hH.2.2.2.2.2.2)) (owns_cells o7) hm5 hm7).mono ?_
      rintro e w8 ⟨rfl, b8⟩
      go_wp2_with fail
      refine hK.out _ _ ?_ (fun hH => ?_)
      · exact ⟨keep_cell b8 hH.1, keep_cell b8 hH.2.1, keep_cell b8 hH.2.2.1, keep_cell b8 hH.2.2.2.1, keep_cell b8 hH.2.2.2.2.1, keep_cell b8 hH.2.2.2.2.2.1, hH.2.2.2.2.2.2.trans (b8.mono hH.2.2.2.2.2.2.size)⟩
      clear hK K
      refine hTake (i := 11) (v := ?_) rfl (by kernel_rfl) (by kernel_rfl) (by kernel_rfl) (by rfl) ?_ hH ?_
      rotate_left
      · intro W hW; (try dsimp only at hW); go_simp <;> with_reducible rfl
      simp only [Act.put, List.setIfInBounds_toArray, List.set_cons_zero, List.set_cons_succ]
      refine hTake (i := 12) (v := ?_) rfl (by kernel_rfl) (by kernel_rfl) (by kernel_rfl) (by rfl) ?_ hH ?_
      rotate_left
      · intro W hW; (try dsimp only at hW); go_simp <;> with_reducible rfl
      simp only [Act.put, List.setIfInBounds_toArray, List.set_cons_zero, List.set_cons_succ]
      refine hTake (i := 13) (v := ?_) rfl (by kernel_rfl) (by kernel_rfl) (by kernel_rfl) (by rfl) ?_ hH ?_
      rotate_left
      · intro W hW; (try dsimp only at hW); go_simp <;> with_reducible rfl
      simp only [Act.put, List.setIfInBounds_toArray, List.set_cons_zero, List.set_cons_succ]
      refine hTake (i := 14) (v := ?_) rfl (by kernel_rfl) (by kernel_rfl) (by kernel_rfl) (by rfl) ?_ hH ?_
      rotate_left
      · intro W hW; (try dsimp only at hW); go_simp <;> with_reducible rfl
      simp only [Act.put, List.setIfInBounds_toArray, List.set_cons_zero, List.set_cons_succ]
      refine wpAnyH_ready (rs := [15]) (by kernel_rfl) (by simp) ?_
      refine AllReadyH.cons rfl (fun K hK => ?_) AllReadyH.nil
      go_simp
      refine (IF _ (owns_cells (owns_below o5 hH.2.2.2.2.2.2))).mono ?_
      rintro e w9 ⟨rfl, b9⟩
      go_wp2_with fail
      refine hK.out _ _ ?_ (fun hH => ?_)
      · exact ⟨keep_cell b9 hH.1, keep_cell b9 hH.2.1, keep_cell b9 hH.2.2.1, keep_cell b9 hH.2.2.2.1, keep_cell b9 hH.2.2.2.2.1, keep_cell b9 hH.2.2.2.2.2.1, hH.2.2.2.2.2.2.trans (b9.mono hH.2.2.2.2.2.2.size)⟩
      clear hK K
      refine hTake (i := 16) (v := ?_) rfl (by kernel_rfl) (by kernel_rfl) (by kernel_rfl) (by rfl) ?_ hH ?_
      rotate_left
      · intro W hW; (try dsimp only at hW); go_simp <;> with_reducible rfl
      simp only [Act.put, List.setIfInBounds_toArray, List.set_cons_zero, List.set_cons_succ]
      refine hTake (i := 17) (v := ?_) rfl (by kernel_rfl) (by kernel_rfl) (by kernel_rfl) (by rfl) ?_ hH ?_
      rotate_left
      · intro W hW; (try dsimp only at hW); go_simp <;> with_reducible rfl
      simp only [Act.put, List.setIfInBounds_toArray, List.set_cons_zero, List.set_cons_succ]
      refine hTake (i := 18) (v := ?_) rfl (by kernel_rfl) (by kernel_rfl) (by kernel_rfl) (by rfl) ?_ hH ?_
      rotate_left
      · intro W hW; (try dsimp only at hW); go_simp <;> with_reducible rfl
      simp only [Act.put, List.setIfInBounds_toArray, List.set_cons_zero, List.set_cons_succ]
      refine hTake (i := 19) (v := ?_) rfl (by kernel_rfl) (by kernel_rfl) (by kernel_rfl) (by rfl) ?_ hH ?_
      rotate_left
      · intro W hW; (try dsimp only at hW); go_simp <;> with_reducible rfl
      simp only [Act.put, List.setIfInBounds_toArray, List.set_cons_zero, List.set_cons_succ]
      refine hTake (i := 20) (v := ?_) rfl (by kernel_rfl) (by kernel_rfl) (by kernel_rfl) (by rfl) ?_ hH ?_
      rotate_left
      · intro W hW; (try dsimp only at hW); go_simp <;> with_reducible rfl
      simp only [Act.put, List.setIfInBounds_toArray, List.set_cons_zero, List.set_cons_succ]
      refine hTake (i := 21) (v := ?_) rfl (by kernel_rfl) (by kernel_rfl) (by kernel_rfl) (by rfl) ?_ hH ?_
      rotate_left
      · intro W hW; (try dsimp only at hW); go_simp <;> with_reducible rfl
      simp only [Act.put, List.setIfInBounds_toArray, List.set_cons_zero, List.set_cons_succ]
      refine hTake (i := 22) (v := ?_) rfl (by kernel_rfl) (by kernel_rfl) (by kernel_rfl) (by rfl) ?_ hH ?_
      rotate_left
      · intro W hW; (try dsimp only at hW); go_simp <;> with_reducible rfl
      simp only [Act.put, List.setIfInBounds_toArray, List.set_cons_zero, List.set_cons_succ]
      refine hTake (i := 23) (v := ?_) rfl (by kernel_rfl) (by kernel_rfl) (by kernel_rfl) (by rfl) ?_ hH ?_
      rotate_left
      · intro W hW; (try dsimp only at hW); go_simp <;> with_reducible rfl
      simp only [Act.put, List.setIfInBounds_toArray, List.set_cons_zero, List.set_cons_succ]
      refine hTake (i := 24) (v := ?_) rfl (by kernel_rfl) (by kernel_rfl) (by kernel_rfl) (by rfl) ?_ hH ?_
      rotate_left
      · intro W hW; (try dsimp only at hW); go_simp <;> with_reducible rfl
      simp only [Act.put, List.setIfInBounds_toArray, List.set_cons_zero, List.set_cons_succ]
      refine hTake (i := 25) (v := ?_) rfl (by kernel_rfl) (by kernel_rfl) (by kernel_rfl) (by rfl) ?_ hH ?_
      rotate_left
      · intro W hW; (try dsimp only at hW); go_simp <;> with_reducible rfl
      simp only [Act.put, List.setIfInBounds_toArray, List.set_cons_zero, List.set_cons_succ]
      refine hTake (i := 26) (v := ?_) rfl (by kernel_rfl) (by kernel_rfl) (by kernel_rfl) (by rfl) ?_ hH ?_
      rotate_left
      · intro W hW; (try dsimp only at hW); go_simp <;> with_reducible rfl
      simp only [Act.put, List.setIfInBounds_toArray, List.set_cons_zero, List.set_cons_succ]
      refine hTake (i := 27) (v := ?_) rfl (by kernel_rfl) (by kernel_rfl) (by kernel_rfl) (by rfl) ?_ hH ?_
      rotate_left
      · intro W hW; (try dsimp only at hW); go_simp <;> with_reducible rfl
      simp only [Act.put, List.setIfInBounds_toArray, List.set_cons_zero, List.set_cons_succ]
      refine wpAnyH_ready (rs := [28]) (by kernel_rfl) (by simp) ?_
      refine AllReadyH.cons rfl (fun K hK => ?_) AllReadyH.nil
      go_simp
      refine (SN _ _ _ _ _ _ _ trivial (owns_cells (owns_below o6 hH.2.2.2.2.2.2)) (owns_cells (owns_below o2 hH.2.2.2.2.2.2)) hm6 hm2).mono ?_
      rintro e w10 ⟨rfl, b10⟩
      go_wp2_with fail
      refine hK.out _ _ ?_ (fun hH => ?_)
      · exact ⟨keep_cell b10 hH.1, keep_cell b10 hH.2.1, keep_cell b10 hH.2.2.1, keep_cell b10 hH.2.2.2.1, keep_cell b10 hH.2.2.2.2.1, keep_cell b10 hH.2.2.2.2.2.1, hH.2.2.2.2.2.2.trans (b10.mono hH.2.2.2.2.2.2.size)⟩
      clear hK K
      refine hTake (i := 29) (v := ?_) rfl (by kernel_rfl) (by kernel_rfl) (by kernel_rfl) (by rfl) ?_ hH ?_
      rotate_left
      · intro W hW; (try dsimp only at hW); go_simp <;> with_reducible rfl
      simp only [Act.put, List.setIfInBounds_toArray, List.set_cons_zero, List.set_cons_succ]
      refine hTake (i := 30) (v := ?_) rfl (by kernel_rfl) (by kernel_rfl) (by kernel_rfl) (by rfl) ?_ hH ?_
      rotate_left
      · intro W hW; (try dsimp only at hW); go_simp <;> with_reducible rfl
      simp only [Act.put, List.setIfInBounds_toArray, List.set_cons_zero, List.set_cons_succ]
      refine hTake (i := 31) (v := ?_) rfl (by kernel_rfl) (by kernel_rfl) (by kernel_rfl) (by rfl) ?_ hH ?_
      rotate_left
      · intro W hW; (try dsimp only at hW); go_simp <;> with_reducible rfl
      simp only [Act.put, List.setIfInBounds_toArray, List.set_cons_zero, List.set_cons_succ]
      refine hTake (i := 32) (v := ?_) rfl (by kernel_rfl) (by kernel_rfl) (by kernel_rfl) (by rfl) ?_ hH ?_
      rotate_left
      · intro W hW; (try dsimp only at hW); go_simp <;> with_reducible rfl
      simp only [Act.put, List.setIfInBounds_toArray, List.set_cons_zero, List.set_cons_succ]
      refine hTake (i := 33) (v := ?_) rfl (by kernel_rfl) (by kernel_rfl) (by kernel_rfl) (by rfl) ?_ hH ?_
      rotate_left
      · intro W hW; (try dsimp only at hW); go_simp <;> with_reducible rfl
      simp only [Act.put, List.setIfInBounds_toArray, List.set_cons_zero, List.set_cons_succ]
      refine hTake (i := 34) (v := ?_) rfl (by kernel_rfl) (by kernel_rfl) (by kernel_rfl) (by rfl) ?_ hH ?_
      rotate_left
      · intro W hW; (try dsimp only at hW); go_simp <;> with_reducible rfl
      simp only [Act.put, List.setIfInBounds_toArray, List.set_cons_zero, List.set_cons_succ]
      refine wpAnyH_ready (rs := [35]) (by kernel_rfl) (by simp) ?_
      refine AllReadyH.cons rfl (fun K hK => ?_) AllReadyH.nil
      go_simp
      refine (SN _ _ _ _ _ _ _ trivial (owns_cells (owns_below o2 hH.2.2.2.2.2.2)) (owns_cells (owns_below o2 hH.2.2.2.2.2.2)) hm2 hm2).mono ?_
      rintro e w11 ⟨rfl, b11⟩
      go_wp2_with fail
      refine hK.out _ _ ?_ (fun hH => ?_)
      · exact ⟨keep_cell b11 hH.1, keep_cell b11 hH.2.1, keep_cell b11 hH.2.2.1, keep_cell b11 hH.2.2.2.1, keep_cell b11 hH.2.2.2.2.1, keep_cell b11 hH.2.2.2.2.2.1, hH.2.2.2.2.2.2.trans (b11.mono hH.2.2.2.2.2.2.size)⟩
      clear hK K
      refine hTake (i := 36) (v := ?_) rfl (by kernel_rfl) (by kernel_rfl) (by kernel_rfl) (by rfl) ?_ hH ?_
      rotate_left
      · intro W hW; (try dsimp only at hW); go_simp <;> with_reducible rfl
      simp only [Act.put, List.setIfInBounds_toArray, List.set_cons_zero, List.set_cons_succ]
      refine hTake (i := 37) (v := ?_) rfl (by kernel_rfl) (by kernel_rfl) (by kernel_rfl) (by rfl) ?_ hH ?_
      rotate_left
      · intro W hW; (try dsimp only at hW); go_simp <;> with_reducible rfl
      simp only [Act.put, List.setIfInBounds_toArray, List.set_cons_zero, List.set_cons_succ]
      refine hTake (i := 38) (v := ?_) rfl (by kernel_rfl) (by kernel_rfl) (by kernel_rfl) (by rfl) ?_ hH ?_
      rotate_left
      · intro W hW; (try dsimp only at hW); go_simp <;> with_reducible rfl
      simp only [Act.put, List.setIfInBounds_toArray, List.set_cons_zero, List.set_cons_succ]
      refine hTake (i := 39) (v := ?_) rfl (by kernel_rfl) (by kernel_rfl) (by kernel_rfl) (by rfl) ?_ hH ?_
      rotate_left
      · intro W hW; (try dsimp only at hW); go_simp <;> with_reducible rfl
      simp only [Act.put, List.setIfInBounds_toArray, List.set_cons_zero, List.set_cons_succ]
      refine hTake (i := 40) (v := ?_) rfl (by kernel_rfl) (by kernel_rfl) (by kernel_rfl) (by rfl) ?_ hH ?_
      rotate_left
      · intro W hW; (try dsimp only at hW); go_simp <;> with_reducible rfl
      simp only [Act.put, List.setIfInBounds_toArray, List.set_cons_zero, List.set_cons_succ]
      refine hTake (i := 41) (v := ?_) rfl (by kernel_rfl) (by kernel_rfl) (by kernel_rfl) (by rfl) ?_ hH ?_
      rotate_left
      · intro W hW; (try dsimp only at hW); go_simp <;> with_reducible rfl
      simp only [Act.put, List.setIfInBounds_toArray, List.set_cons_zero, List.set_cons_succ]
      refine wpAnyH_ready (rs := [42]) (by kernel_rfl) (by simp) ?_
      refine AllReadyH.cons rfl (fun K hK => ?_) AllReadyH.nil
      go_simp
      refine (SI _ (o1.below hH.2.2.2.2.2.2)).mono ?_
      rintro e w12 ⟨a12, m12, c12, rfl, o12, b12⟩
      have hml : m12 = m2 := by have e1 := pairs_lenX o12; have e2 := pairs_lenX o2; omega
      subst hml
      have hmm : ((m12 : Int) == (m12 : Int)) = true := by simp
      have hfd12 := fun W => (fieldPr 0 a12 m12 c12 W).2
      go_wp2_with fail
      refine hK.out _ _ ?_ (fun hH => ?_)
      · exact ⟨keep_cell b12 hH.1, keep_cell b12 hH.2.1, keep_cell b12 hH.2.2.1, keep_cell b12 hH.2.2.2.1, keep_cell b12 hH.2.2.2.2.1, keep_cell b12 hH.2.2.2.2.2.1, hH.2.2.2.2.2.2.trans (b12.mono hH.2.2.2.2.2.2.size)⟩
      clear hK K
      refine hTake (i := 43) (v := ?_) rfl (by kernel_rfl) (by kernel_rfl) (by kernel_rfl) (by rfl) ?_ hH ?_
      rotate_left
      · intro W hW; (try dsimp only at hW); go_simp <;> with_reducible rfl
      simp only [Act.put, List.setIfInBounds_toArray, List.set_cons_zero, List.set_cons_succ]
      refine hTake (i := 44) (v := ?_) rfl (by kernel_rfl) (by kernel_rfl) (by kernel_rfl) (by rfl) ?_ hH ?_
      rotate_left
      · intro W hW; (try dsimp only at hW); go_simp <;> with_reducible rfl
      simp only [Act.put, List.setIfInBounds_toArray, List.set_cons_zero, List.set_cons_succ]
      refine hTake (i := 45) (v := ?_) rfl (by kernel_rfl) (by kernel_rfl) (by kernel_rfl) (by rfl) ?_ hH ?_
      rotate_left
      · intro W hW; (try dsimp only at hW); go_simp <;> with_reducible rfl
      simp only [Act.put, List.setIfInBounds_toArray, List.set_cons_zero, List.set_cons_succ]
      refine hTake (i := 46) (v := ?_) rfl (by kernel_rfl) (by kernel_rfl) (by kernel_rfl) (by rfl) ?_ hH ?_
      rotate_left
      · intro W hW; (try dsimp only at hW); go_simp <;> with_reducible rfl
      simp only [Act.put, List.setIfInBounds_toArray, List.set_cons_zero, List.set_cons_succ]
      refine hTake (i := 47) (v := ?_) rfl (by kernel_rfl) (by kernel_rfl) (by kernel_rfl) (by rfl) ?_ hH ?_
      rotate_left
      · intro W hW; (try dsimp only at hW); go_simp <;> with_reducible rfl
      simp only [Act.put, List.setIfInBounds_toArray, List.set_cons_zero, List.set_cons_succ]
      refine wpAnyH_done (by kernel_rfl) ?_ _
      refine NoPanic.normal ?_
      have b9 := hH.2.2.2.2.2.2
      clear hH
      go_wp2
      go_ret
      exact ⟨rfl, bF.trans (b9.mono bF.size)⟩
end Go.Proofs.YthfanfnbjldddaaGreat
