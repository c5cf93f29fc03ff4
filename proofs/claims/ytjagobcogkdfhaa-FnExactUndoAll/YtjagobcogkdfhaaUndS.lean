
/- UndoAll of the model. -/
import Derived.Test.YtjagobcogkdfhaaBckZ
import Derived.Deep.DeepCutAuto
namespace Go.Proofs.Ytjagobcogkdfhaa
open Go.RowKit

theorem heap_seven {w : World} {R : Nat} {t : TypeId} {u0 u1 u2 u3 u4 u5 u6 : Value} (h : w.heap[R]? = some (.cells #[u0, u1, u2, u3, u4, u5, u6] t (0, 0))) (v0 v1 v2 v3 v4 v5 v6 : Value) : (((((((w.setCell ⟨R, 0, none⟩ v0).setCell ⟨R, 1, none⟩ v1).setCell ⟨R, 2, none⟩ v2).setCell ⟨R, 3, none⟩ v3).setCell ⟨R, 4, none⟩ v4).setCell ⟨R, 5, none⟩ v5).setCell ⟨R, 6, none⟩ v6).heap[R]? = some (.cells #[v0, v1, v2, v3, v4, v5, v6] t (0, 0)) := by
  have h0 := Joins.block_setCell (i := 0) h v0
  have h1 := Joins.block_setCell (i := 1) h0 v1
  have h2 := Joins.block_setCell (i := 2) h1 v2
  have h3 := Joins.block_setCell (i := 3) h2 v3
  have h4 := Joins.block_setCell (i := 4) h3 v4
  have h5 := Joins.block_setCell (i := 5) h4 v5
  have h6 := Joins.block_setCell (i := 6) h5 v6
  simpa using h6
/-- Leaves of one's own from lo to hi, a block K outside. -/
def LvK (w : World) (B K : Nat) (lv : Value) (m : Nat) (ls : List (List Ch.Row)) : Prop :=
  ∃ vs lo hi, OwnV w B lv m vs ls ∧ B ≤ lo ∧ hi ≤ w.heap.size ∧ (∀ g, lv.ownBlock = some g → lo ≤ g ∧ g < hi) ∧ (∀ (i : Nat) (x : Value) (g : Nat), vs[i]? = some x → x.ownBlock = some g → lo ≤ g ∧ g < hi) ∧ (K < lo ∨ hi ≤ K)

/-- Leaves and records in a box O: apart from one another and from it. -/
def OwnO (w : World) (B O : Nat) (lv : Value) (m : Nat) (ls : List (List Ch.Row)) (rv : Value) (p : Nat) (rs : List Ch.Rec) : Prop :=
  ∃ vs lo hi, OwnV w B lv m vs ls ∧ w.ownsRow B 71 7 rv p (rc7 rs) ∧ B ≤ lo ∧ hi ≤ w.heap.size ∧ (∀ g, lv.ownBlock = some g → lo ≤ g ∧ g < hi) ∧ (∀ (i : Nat) (x : Value) (g : Nat), vs[i]? = some x → x.ownBlock = some g → lo ≤ g ∧ g < hi) ∧ (∀ g, rv.ownBlock = some g → (g < lo ∨ hi ≤ g) ∧ g ≠ O) ∧ (O < lo ∨ hi ≤ O)
theorem OwnO.own {w : World} {B O m p : Nat} {lv rv : Value} {ls : List (List Ch.Row)} {rs : List Ch.Rec} (h : OwnO w B O lv m ls rv p rs) : OwnU w B lv m ls rv p rs := by
  obtain ⟨vs, lo, hi, h1, h2, h3, h4, h5, h6, h7, _⟩ := h
  exact ⟨vs, lo, hi, h1, h2, h3, h4, h5, h6, fun g hg => (h7 g hg).1⟩
theorem Ch.bef_fine {bs : List Ch.Bf} (h : Ch.befOne bs = 0) {k : Nat} (hk : k < bs.length) : (bs.getD k Ch.Bf.zero).fault = 0 := Ch.bef_ok h _ (by simp [List.getD, hk])
theorem Ch.fine_parts {k v : Int} {h : Bool} (hf : (⟨k, h, v⟩ : Ch.Bf).fault = 0) : Ch.inB k 0 99 = true := by
  unfold Ch.Bf.fault at hf
  by_cases h1 : (!Ch.inB k 0 99 || !Ch.inB v 0 9999) = true
  · rw [if_pos h1] at hf; cases hf
  · simp only [Bool.or_eq_true, Bool.not_eq_true', not_or, Bool.not_eq_false] at h1
    exact h1.1
/-- A step back where nothing is at fault. -/
theorem Ch.back_set {tx k v : Int} {h : Bool} {ls : List (List Ch.Row)} {rs : List Ch.Rec} (hg : Ch.leavesFault ls = 0) (ht : Ch.inB tx 1 999 = true) (hf : (⟨k, h, v⟩ : Ch.Bf).fault = 0) :
    ((Ch.setLs ls k h v).1 = 0 → Ch.backOne tx (0, ls, rs) ⟨k, h, v⟩ = (0, (Ch.setLs ls k h v).2, rs ++ [⟨3, tx, k, (Ch.bf k (Ch.has ls k)).h, (Ch.bf k (Ch.has ls k)).v, h, v⟩])) ∧ (∀ c, (Ch.setLs ls k h v).1 = c → (c != 0) = true → Ch.backOne tx (0, ls, rs) ⟨k, h, v⟩ = (c, [], [])) := by
  have hF : Ch.setF ls tx [⟨k, h, v⟩] = 0 := by rw [Ch.setF_bf hg ht]; exact hf
  refine ⟨fun hs => ?_, fun c hs hc => ?_⟩
  · have e := Ch.setR_ok hF hs
    rw [Ch.back_ok (b := ⟨k, h, v⟩) (by rw [e]), e]
    rfl
  · exact Ch.back_many (b := ⟨k, h, v⟩) (by rw [Ch.setR_many hF hs hc]) hc
theorem Ch.back_stands {tx c : Int} {ls l : List (List Ch.Row)} {rs : List Ch.Rec} {bs : List Ch.Bf} {k : Nat} (hc : (c != 0) = true) (h : Ch.backAll tx ls (bs.drop k) = (c, l, rs)) : Ch.backAll tx ls bs = (c, l, rs) := by
  induction k with
  | zero => rwa [List.drop_zero] at h
  | succ k ih =>
    by_cases hk : k < bs.length
    · exact ih (by rw [Ch.back_next hk, h, Ch.back_code hc])
    · refine ih ?_
      rw [List.drop_of_length_le (by omega)] at h ⊢
      exact h

set_option linter.unusedSimpArgs false in
set_option maxRecDepth 20000 in
set_option maxHeartbeats 8000000 in
theorem l8Undo_any (a : Option Addr) (n cap : Nat) (tx : Int) (ab : Option Addr) (nb cb : Nat) (ls : List (List Ch.Row)) (bs : List Ch.Bf) (w : World) (h : LvAt w a n ls) (hg : Ch.leavesFault ls = 0) (ht : Ch.inB tx 1 999 = true) (hf : Ch.befOne bs = 0) (hb : CellsAt w ab (nb * 3) (bfcells bs)) (hnb : nb ≤ 40) :
    Calls Try.prog 116 #[.slice a n cap, .int .i64 tx, .slice ab nb cb] w fun e w' => ∃ a' m c' r p q, e = .returned (.agg #[.int .i64 (Ch.backAll tx ls bs).1, .slice a' m c', .slice r p q]) ∧ OwnU w' w.heap.size (.slice a' m c') m (Ch.backAll tx ls bs).2.1 (.slice r p q) p (Ch.backAll tx ls bs).2.2 ∧ Below w.heap.size w w' := by
  have hs := Ch.good_size hg
  have HL := hb.bflen
  have hgl : ∀ k, k < n → (ls.getD k []).length ≠ 0 := fun k hk => (Ch.good_leaf hg k (by have := h.len.out; omega)).1
  have b0 : Below w.heap.size w (w.alloc (.cells #[.int .i64 0, .slice none 0 0, .slice none 0 0] 61)) := (Below.refl _ _).alloc (Nat.le_refl _) _
  go_enter Try.func116, Try.ntmps116
  go_wp2_with fail
  refine (specCopy_any a n cap ls _ (h.below b0) hs hgl).mono ?_
  rintro e w1 ⟨a1, c1, rfl, o1, b1⟩
  have hR1 := block_below b1 (heap_alloc_new w _)
  have bE := below_box b1
  have z1 := b1.size
  simp at z1
  obtain ⟨vs, o1⟩ := o1.told
  have o1' : OwnV w1 (w.heap.size + 1) (.slice a1 n c1) n vs ls := by simpa using o1
  clear o1 b1 b0
  have hR2 := (Below.heap_alloc w1 (.cells #[.int .i64 0, .slice a1 n c1, .slice none 0 0] 61) _ (by omega)).trans hR1
  have kO : Below w1.heap.size w1 (w1.alloc (.cells #[.int .i64 0, .slice a1 n c1, .slice none 0 0] 61)) := (Below.refl _ _).alloc (Nat.le_refl _) _
  go_wp2
  go_loopw [8] (fun i wr => ∃ (k : Nat) (al : Option Addr) (ml cl : Nat) (r : Option Addr) (p q : Nat), k ≤ nb ∧ i = .int .i64 ((k : Int) - 1) ∧ Hid ((Ch.backAll tx ls (bs.drop k)).1 = 0) ∧ wr.heap[w.heap.size]? = some (.cells #[.int .i64 0, .slice none 0 0, .slice none 0 0] 61 (0, 0)) ∧ wr.heap[w1.heap.size]? = some (.cells #[.int .i64 0, .slice al ml cl, .slice r p q] 61 (0, 0)) ∧ OwnO wr (w.heap.size + 1) w1.heap.size (.slice al ml cl) ml (Ch.backAll tx ls (bs.drop k)).2.1 (.slice r p q) p (Ch.backAll tx ls (bs.drop k)).2.2 ∧ w1.heap.size + 1 ≤ wr.heap.size ∧ Below w.heap.size w wr) (fun i _ => (intOf i + 1).toNat)
  case atStart =>
    have hend := Ch.back_end (tx := tx) (ls := ls) (bs := bs) (k := nb) (by have := HL.out; omega)
    refine ⟨nb, a1, n, c1, none, 0, 0, Nat.le_refl _, rfl, by rw [hend]; rfl, hR2, heap_alloc_new w1 _, ?_, by simp, bE.alloc bE.size _⟩
    rw [hend]
    exact ⟨vs, w.heap.size + 1, w1.heap.size, o1'.below kO, World.ownsRow_nil _ _ _ _, Nat.le_refl _, by simp, owns_lt o1'.2.1, o1'.lt, fun g hg => by simp [Value.ownBlock] at hg, .inr (Nat.le_refl _)⟩
  case round =>
    clear hR2 kO o1' hR1
    obtain ⟨k, al, ml, cl, r, p, q, hk, rfl, H0, hR, hO, UO, hsz, hB⟩ := hrel
    have hzw : w.heap.size < wr.heap.size := (Array.getElem?_eq_some_iff.1 hR).1
    have hzo : w1.heap.size < wr.heap.size := (Array.getElem?_eq_some_iff.1 hO).1
    obtain ⟨x0, x1, x2, f0, f1, f2⟩ := rowThree hR
    obtain ⟨y0, y1, y2, g0, g1, g2⟩ := rowThree hO
    cases k with
    | zero =>
      rw [List.drop_zero] at H0 UO
      have hm1 : (((0 : Nat) : Int) - 1) = -1 := by omega
      rw [hm1]
      have hdec : decide ((0 : Int) ≤ -1) = false := by decide
      have UU := UO.own
      clear UO
      go_wp2
      refine bodyPost_ret (v := .agg #[.int .i64 0, .slice al ml cl, .slice r p q]) (by simp [results, Try.results116, go_sem, x0, x1, x2]) rfl ⟨al, ml, cl, r, p, q, by rw [H0.out], ?_, ((hB.setCell (p := ⟨w.heap.size, 0, none⟩) (Nat.le_refl _) _).setCell (p := ⟨w.heap.size, 1, none⟩) (Nat.le_refl _) _).setCell (p := ⟨w.heap.size, 2, none⟩) (Nat.le_refl _) _⟩
      exact (((UU.low (Nat.lt_succ_self _) _).low (Nat.lt_succ_self _) _).low (Nat.lt_succ_self _) _).base (Nat.le_succ _)
    | succ i =>
      have hil : i < bs.length := by have := HL.out; omega
      have hin : i < nb := by omega
      have hm1 : (((i + 1 : Nat) : Int) - 1) = (i : Int) := by omega
      rw [hm1]
      have keep := Ch.back_keeps (tx := tx) hg (bs.drop (i + 1))
      have hnext := hid (Ch.back_next (tx := tx) (ls := ls) hil)
      have hfi := Ch.bef_fine hf hil
      have hstand := hid (fun c hc h => Ch.back_stands (tx := tx) (c := c) (ls := ls) (l := []) (rs := []) (bs := bs) (k := i) hc h)
      obtain ⟨b, off, rfl, q0, q1, q2⟩ := (hb.below hB).bef (show i < nb by omega)
      have hbl := lt_of_cell q0
      generalize bs.getD i Ch.Bf.zero = bb at *
      obtain ⟨bk, bh, bv⟩ := bb
      simp only at q0 q1 q2
      generalize hst : Ch.backAll tx ls (bs.drop (i + 1)) = st at *
      obtain ⟨sc, l, rs⟩ := st
      have hsc : sc = 0 := H0.out
      subst hsc
      have hlg : Ch.leavesFault l = 0 := keep.2.2 rfl
      have hpl : p ≤ 1048576 := by have h1 := UO.own.len.2; have h2 := keep.2.1; have h3 := HL.out; simp at h1 h2; omega
      have hset := hid (Ch.back_set (rs := rs) hlg ht hfi)
      have LV := UO.own.lv (Ch.good_size hlg)
      have SI := fun W hW => l8Set_any al ml cl tx bk bh bv l W hW hlg (Ch.fine_parts hfi)
      generalize Ch.bf bk (Ch.has l bk) = bb at *
      obtain ⟨_, rh, ro⟩ := bb
      generalize Ch.setLs l bk bh bv = Y at *
      obtain ⟨yc, nl⟩ := Y
      simp only at hset SI
      clear hst keep hfi H0
      generalize hOO : w1.heap.size = O at *
      go_upto_region 5 with fail
      go_cut [9, 10, 11] (fun s9 s10 s11 wx => ∃ K a2 m2 c2, s9 = .slice a2 m2 c2 ∧ s10 = .pointer (some ⟨K, 0, none⟩) ∧ s11 = .int .i64 yc ∧ wx.heap[K]? = some (.cells #[.int .i64 2, .int .i64 tx, .int .i64 bk, .bool rh, .int .i64 ro, .bool bh, .int .i64 bv] 71 (0, 0)) ∧ LvK wx wr.heap.size K (.slice a2 m2 c2) m2 nl ∧ wr.heap.size ≤ K ∧ Below wr.heap.size wr wx)
      case first =>
        have HS : Hid (∀ W', Below wr.heap.size wr W' → W'.cell? ⟨O, 1, none⟩ = some (.slice al ml cl) ∧ W'.cell? ⟨b, off + i * 3, none⟩ = some (.int .i64 bk) ∧ W'.cell? ⟨b, off + i * 3 + 1, none⟩ = some (.bool bh) ∧ W'.cell? ⟨b, off + i * 3 + 2, none⟩ = some (.int .i64 bv) ∧ Below wr.heap.size wr W') := fun W' hW => ⟨keep_cell hW y1, keep_cell hW q0, keep_cell hW q1, keep_cell hW q2, hW⟩
        refine wp_region_noPanic ?_
        refine wp_region_held_drew (S := fun W' => W'.cell? ⟨O, 1, none⟩ = some (.slice al ml cl) ∧ W'.cell? ⟨b, off + i * 3, none⟩ = some (.int .i64 bk) ∧ W'.cell? ⟨b, off + i * 3 + 1, none⟩ = some (.bool bh) ∧ W'.cell? ⟨b, off + i * 3 + 2, none⟩ = some (.int .i64 bv) ∧ Below wr.heap.size wr W') (by kernel_rfl) (HS.out _ (Below.refl _ _).drew) (fun hH => ?_)
        have hwd : wr.heap.size ≤ wr.drew.heap.size := (Below.refl wr.heap.size wr).drew.size
        generalize wr.drew = wd at *
        refine hTake (i := 0) (v := ?_) rfl (by kernel_rfl) (by kernel_rfl) (by kernel_rfl) (by rfl) ?_ hH ?_
        rotate_left
        · intro W hW; (try dsimp only at hW); go_simp <;> with_reducible rfl
        simp only [Act.put, List.setIfInBounds_toArray, List.set_cons_zero, List.set_cons_succ]
        refine hTake (i := 1) (v := ?_) rfl (by kernel_rfl) (by kernel_rfl) (by kernel_rfl) (by rfl) ?_ hH ?_
        rotate_left
        · intro W hW; (try dsimp only at hW); go_simp <;> with_reducible rfl
        simp only [Act.put, List.setIfInBounds_toArray, List.set_cons_zero, List.set_cons_succ]
        refine hTake (i := 2) (v := ?_) rfl (by kernel_rfl) (by kernel_rfl) (by kernel_rfl) (by rfl) ?_ hH ?_
        rotate_left
        · intro W hW; (try dsimp only at hW); go_simp <;> with_reducible rfl
        simp only [Act.put, List.setIfInBounds_toArray, List.set_cons_zero, List.set_cons_succ]
        refine hTake (i := 3) (v := ?_) rfl (by kernel_rfl) (by kernel_rfl) (by kernel_rfl) (by rfl) ?_ hH ?_
        rotate_left
        · intro W hW; (try dsimp only at hW); go_simp <;> with_reducible rfl
        simp only [Act.put, List.setIfInBounds_toArray, List.set_cons_zero, List.set_cons_succ]
        refine hTake (i := 4) (v := ?_) rfl (by kernel_rfl) (by kernel_rfl) (by kernel_rfl) (by rfl) ?_ hH ?_
        rotate_left
        · intro W hW; (try dsimp only at hW); go_simp <;> with_reducible rfl
        simp only [Act.put, List.setIfInBounds_toArray, List.set_cons_zero, List.set_cons_succ]
        refine hTake (i := 5) (v := ?_) rfl (by kernel_rfl) (by kernel_rfl) (by kernel_rfl) (by rfl) ?_ hH ?_
        rotate_left
        · intro W hW; (try dsimp only at hW); go_simp <;> with_reducible rfl
        simp only [Act.put, List.setIfInBounds_toArray, List.set_cons_zero, List.set_cons_succ]
        refine hTake (i := 6) (v := ?_) rfl (by kernel_rfl) (by kernel_rfl) (by kernel_rfl) (by rfl) ?_ hH ?_
        rotate_left
        · intro W hW; (try dsimp only at hW); go_simp <;> with_reducible rfl
        simp only [Act.put, List.setIfInBounds_toArray, List.set_cons_zero, List.set_cons_succ]
        refine hTake (i := 7) (v := ?_) rfl (by kernel_rfl) (by kernel_rfl) (by kernel_rfl) (by rfl) ?_ hH ?_
        rotate_left
        · intro W hW; (try dsimp only at hW); go_simp <;> with_reducible rfl
        simp only [Act.put, List.setIfInBounds_toArray, List.set_cons_zero, List.set_cons_succ]
        refine hTake (i := 8) (v := ?_) rfl (by kernel_rfl) (by kernel_rfl) (by kernel_rfl) (by rfl) ?_ hH ?_
        rotate_left
        · intro W hW; (try dsimp only at hW); go_simp <;> with_reducible rfl
        simp only [Act.put, List.setIfInBounds_toArray, List.set_cons_zero, List.set_cons_succ]
        refine hTake (i := 9) (v := ?_) rfl (by kernel_rfl) (by kernel_rfl) (by kernel_rfl) (by rfl) ?_ hH ?_
        rotate_left
        · intro W hW; (try dsimp only at hW); go_simp <;> with_reducible rfl
        simp only [Act.put, List.setIfInBounds_toArray, List.set_cons_zero, List.set_cons_succ]
        refine hTake (i := 10) (v := ?_) rfl (by kernel_rfl) (by kernel_rfl) (by kernel_rfl) (by rfl) ?_ hH ?_
        rotate_left
        · intro W hW; (try dsimp only at hW); go_simp <;> with_reducible rfl
        simp only [Act.put, List.setIfInBounds_toArray, List.set_cons_zero, List.set_cons_succ]
        refine hTake (i := 11) (v := ?_) rfl (by kernel_rfl) (by kernel_rfl) (by kernel_rfl) (by rfl) ?_ hH ?_
        rotate_left
        · intro W hW; (try dsimp only at hW); go_simp <;> with_reducible rfl
        simp only [Act.put, List.setIfInBounds_toArray, List.set_cons_zero, List.set_cons_succ]
        refine hTake (i := 12) (v := ?_) rfl (by kernel_rfl) (by kernel_rfl) (by kernel_rfl) (by rfl) ?_ hH ?_
        rotate_left
        · intro W hW; (try dsimp only at hW); go_simp <;> with_reducible rfl
        simp only [Act.put, List.setIfInBounds_toArray, List.set_cons_zero, List.set_cons_succ]
        refine hTake (i := 13) (v := ?_) rfl (by kernel_rfl) (by kernel_rfl) (by kernel_rfl) (by rfl) ?_ hH ?_
        rotate_left
        · intro W hW; (try dsimp only at hW); go_simp <;> with_reducible rfl
        simp only [Act.put, List.setIfInBounds_toArray, List.set_cons_zero, List.set_cons_succ]
        refine hTake (i := 14) (v := ?_) rfl (by kernel_rfl) (by kernel_rfl) (by kernel_rfl) (by rfl) ?_ hH ?_
        rotate_left
        · intro W hW; (try dsimp only at hW); go_simp <;> with_reducible rfl
        simp only [Act.put, List.setIfInBounds_toArray, List.set_cons_zero, List.set_cons_succ]
        refine hTake (i := 15) (v := ?_) rfl (by kernel_rfl) (by kernel_rfl) (by kernel_rfl) (by rfl) ?_ hH ?_
        rotate_left
        · intro W hW; (try dsimp only at hW); go_simp <;> with_reducible rfl
        simp only [Act.put, List.setIfInBounds_toArray, List.set_cons_zero, List.set_cons_succ]
        refine hTake (i := 16) (v := ?_) rfl (by kernel_rfl) (by kernel_rfl) (by kernel_rfl) (by rfl) ?_ hH ?_
        rotate_left
        · intro W hW; (try dsimp only at hW); go_simp <;> with_reducible rfl
        simp only [Act.put, List.setIfInBounds_toArray, List.set_cons_zero, List.set_cons_succ]
        refine hTake (i := 17) (v := ?_) rfl (by kernel_rfl) (by kernel_rfl) (by kernel_rfl) (by rfl) ?_ hH ?_
        rotate_left
        · intro W hW; (try dsimp only at hW); go_simp <;> with_reducible rfl
        simp only [Act.put, List.setIfInBounds_toArray, List.set_cons_zero, List.set_cons_succ]
        refine wpAnyH_ready (rs := [18, 23]) (by kernel_rfl) (by simp) ?_
        refine AllReadyH.cons rfl (fun K hK => ?_) (AllReadyH.cons rfl (fun K hK => ?_) AllReadyH.nil)
        focus
          go_simp
          refine (SI _ (LV.below hH.2.2.2.2)).mono ?_
          rintro e v1 ⟨a2, m2, c2, rfl, o2, bv1⟩
          have Bv1 := hH.2.2.2.2.trans (bv1.mono hH.2.2.2.2.size)
          go_wp2_with fail
          refine hK.out _ _ ?_ (fun hH => ?_)
          · exact HS.out _ Bv1
          clear hK K
          refine hTake (i := 19) (v := ?_) rfl (by kernel_rfl) (by kernel_rfl) (by kernel_rfl) (by rfl) ?_ hH ?_
          rotate_left
          · intro W hW; (try dsimp only at hW); go_simp <;> with_reducible rfl
          simp only [Act.put, List.setIfInBounds_toArray, List.set_cons_zero, List.set_cons_succ]
          refine hTake (i := 20) (v := ?_) rfl (by kernel_rfl) (by kernel_rfl) (by kernel_rfl) (by rfl) ?_ hH ?_
          rotate_left
          · intro W hW; (try dsimp only at hW); go_simp <;> with_reducible rfl
          simp only [Act.put, List.setIfInBounds_toArray, List.set_cons_zero, List.set_cons_succ]
          refine hTake (i := 21) (v := ?_) rfl (by kernel_rfl) (by kernel_rfl) (by kernel_rfl) (by rfl) ?_ hH ?_
          rotate_left
          · intro W hW; (try dsimp only at hW); go_simp <;> with_reducible rfl
          simp only [Act.put, List.setIfInBounds_toArray, List.set_cons_zero, List.set_cons_succ]
          refine hTake (i := 22) (v := ?_) rfl (by kernel_rfl) (by kernel_rfl) (by kernel_rfl) (by rfl) ?_ hH ?_
          rotate_left
          · intro W hW; (try dsimp only at hW); go_simp <;> with_reducible rfl
          simp only [Act.put, List.setIfInBounds_toArray, List.set_cons_zero, List.set_cons_succ]
          refine wpAnyH_ready (rs := [23]) (by kernel_rfl) (by simp) ?_
          refine AllReadyH.cons rfl (fun K hK => ?_) AllReadyH.nil
          go_simp
          refine hK.out _ _ ?_ (fun hH => ?_)
          · exact HS.out _ (Bv1.alloc Bv1.size _)
          clear hK K
          refine hTake (i := 24) (v := ?_) rfl (by kernel_rfl) (by kernel_rfl) (by kernel_rfl) (by rfl) ?_ hH ?_
          rotate_left
          · intro W hW; (try dsimp only at hW); go_simp <;> with_reducible rfl
          simp only [Act.put, List.setIfInBounds_toArray, List.set_cons_zero, List.set_cons_succ]
          refine wpAnyH_ready (rs := [25]) (by kernel_rfl) (by simp) ?_
          refine AllReadyH.cons rfl (fun K hK => ?_) AllReadyH.nil
          go_simp
          refine hK.out _ _ ?_ (fun hH => ?_)
          · exact HS.out _ (Bv1.alloc Bv1.size _)
          clear hK K
          refine hTake (i := 26) (v := ?_) rfl (by kernel_rfl) (by kernel_rfl) (by kernel_rfl) (by rfl) ?_ hH ?_
          rotate_left
          · intro W hW; (try dsimp only at hW); go_simp <;> with_reducible rfl
          simp only [Act.put, List.setIfInBounds_toArray, List.set_cons_zero, List.set_cons_succ]
          refine wpAnyH_done (by kernel_rfl) ?_ _
          refine NoPanic.normal ?_
          go_wp2_with fail
          go_meet
          refine ⟨v1.heap.size, a2, m2, c2, rfl, rfl, rfl, heap_alloc_new v1 _, ?_, Bv1.size, Bv1.alloc Bv1.size _⟩
          obtain ⟨vs, o2⟩ := o2.told
          exact ⟨vs, wd.heap.size, v1.heap.size, (o2.below ((Below.refl _ _).alloc (Nat.le_refl _) _)).base hwd, hwd, by simp, owns_lt o2.2.1, o2.lt, .inr (Nat.le_refl _)⟩
        focus
          go_simp
          refine hK.out _ _ ?_ (fun hH => ?_)
          · exact HS.out _ (hH.2.2.2.2.alloc hH.2.2.2.2.size _)
          clear hK K
          have BA := hH.2.2.2.2
          refine wpAnyH_ready (rs := [18]) (by kernel_rfl) (by simp) ?_
          refine AllReadyH.cons rfl (fun K hK => ?_) AllReadyH.nil
          go_simp
          refine (SI _ (LV.below BA)).mono ?_
          rintro e v1 ⟨a2, m2, c2, rfl, o2, bv1⟩
          have hK1 := block_below bv1 (heap_alloc_new wd _)
          have Bv1 := BA.trans (bv1.mono BA.size)
          have zv := bv1.size
          simp at zv
          go_wp2_with fail
          refine hK.out _ _ ?_ (fun hH => ?_)
          · exact HS.out _ Bv1
          clear hK K
          obtain ⟨⟨k0, k1, k2, k3, k4, k5, k6⟩, fk⟩ := rowSeven hK1
          have f0 := fk 0
          have f1 := fk 1
          have f2 := fk 2
          have f3 := fk 3
          have f4 := fk 4
          have f5 := fk 5
          have f6 := fk 6
          have hkz := lt_of_cell k0
          clear fk
          refine hTake (i := 19) (v := ?_) rfl (by kernel_rfl) (by kernel_rfl) (by kernel_rfl) (by rfl) ?_ hH ?_
          rotate_left
          · intro W hW; (try dsimp only at hW); go_simp <;> with_reducible rfl
          simp only [Act.put, List.setIfInBounds_toArray, List.set_cons_zero, List.set_cons_succ]
          refine hTake (i := 20) (v := ?_) rfl (by kernel_rfl) (by kernel_rfl) (by kernel_rfl) (by rfl) ?_ hH ?_
          rotate_left
          · intro W hW; (try dsimp only at hW); go_simp <;> with_reducible rfl
          simp only [Act.put, List.setIfInBounds_toArray, List.set_cons_zero, List.set_cons_succ]
          refine hTake (i := 21) (v := ?_) rfl (by kernel_rfl) (by kernel_rfl) (by kernel_rfl) (by rfl) ?_ hH ?_
          rotate_left
          · intro W hW; (try dsimp only at hW); go_simp <;> with_reducible rfl
          simp only [Act.put, List.setIfInBounds_toArray, List.set_cons_zero, List.set_cons_succ]
          refine hTake (i := 22) (v := ?_) rfl (by kernel_rfl) (by kernel_rfl) (by kernel_rfl) (by rfl) ?_ hH ?_
          rotate_left
          · intro W hW; (try dsimp only at hW); go_simp <;> with_reducible rfl
          simp only [Act.put, List.setIfInBounds_toArray, List.set_cons_zero, List.set_cons_succ]
          refine hTake (i := 24) (v := ?_) rfl (by kernel_rfl) (by kernel_rfl) (by kernel_rfl) (by rfl) ?_ hH ?_
          rotate_left
          · intro W hW; (try dsimp only at hW); go_simp <;> with_reducible rfl
          simp only [Act.put, List.setIfInBounds_toArray, List.set_cons_zero, List.set_cons_succ]
          refine wpAnyH_ready (rs := [25]) (by kernel_rfl) (by simp) ?_
          refine AllReadyH.cons rfl (fun K hK => ?_) AllReadyH.nil
          go_simp
          refine hK.out _ _ ?_ (fun hH => ?_)
          · exact HS.out _ (below_store7 Bv1 hwd _ _ _ _ _ _ _)
          clear hK K
          refine hTake (i := 26) (v := ?_) rfl (by kernel_rfl) (by kernel_rfl) (by kernel_rfl) (by rfl) ?_ hH ?_
          rotate_left
          · intro W hW; (try dsimp only at hW); go_simp <;> with_reducible rfl
          simp only [Act.put, List.setIfInBounds_toArray, List.set_cons_zero, List.set_cons_succ]
          refine wpAnyH_done (by kernel_rfl) ?_ _
          refine NoPanic.normal ?_
          go_wp2_with fail
          go_meet
          refine ⟨wd.heap.size, a2, m2, c2, rfl, rfl, rfl, heap_seven hK1 _ _ _ _ _ _ _, ?_, hwd, below_store7 Bv1 hwd _ _ _ _ _ _ _⟩
          obtain ⟨vs, o2⟩ := o2.told
          have o3 : OwnV v1 (wd.heap.size + 1) (.slice a2 m2 c2) m2 vs nl := by simpa using o2
          exact ⟨vs, wd.heap.size + 1, v1.heap.size, (o3.store7 (Nat.lt_succ_self _) _ _ _ _ _ _ _).base (by omega), by omega, by simp, owns_lt o3.2.1, o3.lt, .inl (Nat.lt_succ_self _)⟩
      case rest =>
        obtain ⟨w2, hwn⟩ : ∃ x : World, x = wc := ⟨_, rfl⟩
        subst hwn
        obtain ⟨K, a2, m2, c2, rfl, rfl, rfl, hK, LK, hwK, bC⟩ := hcut
        have hR2 := block_below bC hR
        have hO2 := block_below bC hO
        obtain ⟨x0, x1, x2, f0, f1, f2⟩ := rowThree hR2
        obtain ⟨y0, y1, y2, g0, g1, g2⟩ := rowThree hO2
        obtain ⟨⟨k0, k1, k2, k3, k4, k5, k6⟩, fk⟩ := rowSeven hK
        have fk0 := fk 0
        have hkz := lt_of_cell k0
        have bW := hB.trans (bC.mono hB.size)
        clear fk
        by_cases hy : yc = 0
        rotate_left
        · have hyc : (yc != 0) = true := by simpa using hy
          have HX := hid (hstand.out yc hyc (hnext.out.trans (hset.out.2 yc rfl hyc)))
          clear hset hstand hnext
          go_wp2
          exact bodyPost_ret (v := .agg #[.int .i64 yc, .slice none 0 0, .slice none 0 0]) (by simp [results, Try.results116, go_sem, x0, x1, x2]) rfl ⟨none, 0, 0, none, 0, 0, by rw [HX.out], by rw [HX.out]; exact OwnU.none _ _, ((bW.setCell (p := ⟨w.heap.size, 0, none⟩) (Nat.le_refl _) _).setCell (p := ⟨w.heap.size, 1, none⟩) (Nat.le_refl _) _).setCell (p := ⟨w.heap.size, 2, none⟩) (Nat.le_refl _) _⟩
        subst hy
        have HX := hid (hnext.out.trans (hset.out.1 rfl))
        obtain ⟨vs1, lo1, hi1, u1, u2, u3, u4, u5, u6, u7, u8⟩ := UO
        have K2 := owns_lt u2
        have hOR : (Value.slice r p q).ownBlock ≠ some O := fun e => (u7 O e).2 rfl
        obtain ⟨vs2, lo2, hi2, t1, t2, t3, t4, t5, t6⟩ := LK
        clear hset hstand hnext u1 u3 u4 u5 u6 u7 u8
        have hKO : K ≠ O := by omega
        have hKR : K ≠ w.heap.size := by omega
        have rK : ∀ g, (Value.slice r p q).ownBlock = some g → g ≠ K := fun g hg => by have := (K2 g hg).2; omega
        have rO : ∀ g, (Value.slice r p q).ownBlock = some g → g ≠ O := fun g hg e => hOR (by rw [← e]; exact hg)
        have recV := owns_set (o := 1) (owns_set (o := 0) (owns_below u2 bC) rK (.int .i64 3)) rO (.slice a2 m2 c2)
        have lvV := (t1.store (p := K) (o := 0) (u := .int .i64 3) (fun g hg => by have := t4 g hg; omega) (fun i x g hx hg => by have := t5 i x g hx hg; omega)).store3 (q := O) (o := 1) (by omega) (.slice a2 m2 c2)
        have hKV0 := Joins.block_setCell (i := 0) hK (.int .i64 3)
        have hKV : ((w2.setCell ⟨K, 0, none⟩ (.int .i64 3)).setCell ⟨O, 1, none⟩ (.slice a2 m2 c2)).heap[K]? = some (.cells #[.int .i64 3, .int .i64 tx, .int .i64 bk, .bool rh, .int .i64 ro, .bool bh, .int .i64 bv] 71 (0, 0)) := (Below.heap_setCell _ _ _ _ (by exact hKO)).trans (by simpa using hKV0)
        have hOV := heap_mid ((Below.heap_setCell w2 ⟨K, 0, none⟩ (.int .i64 3) O (by exact fun e => hKO e.symm)).trans hO2) (.slice a2 m2 c2)
        have hRV : ((w2.setCell ⟨K, 0, none⟩ (.int .i64 3)).setCell ⟨O, 1, none⟩ (.slice a2 m2 c2)).heap[w.heap.size]? = some (.cells #[.int .i64 0, .slice none 0 0, .slice none 0 0] 61 (0, 0)) := (Below.heap_setCell _ _ _ _ (by show w.heap.size ≠ O; omega)).trans ((Below.heap_setCell _ _ _ _ (by show w.heap.size ≠ K; omega)).trans hR2)
        have bV := (bW.setCell (p := ⟨K, 0, none⟩) (by show w.heap.size ≤ K; omega) (.int .i64 3)).setCell (p := ⟨O, 1, none⟩) (by show w.heap.size ≤ O; omega) (.slice a2 m2 c2)
        have zV : ((w2.setCell ⟨K, 0, none⟩ (.int .i64 3)).setCell ⟨O, 1, none⟩ (.slice a2 m2 c2)).heap.size = w2.heap.size := by simp
        have zC := bC.size
        go_upto_region 10 with fail
        generalize (w2.setCell ⟨K, 0, none⟩ (.int .i64 3)).setCell ⟨O, 1, none⟩ (.slice a2 m2 c2) = V at *
        clear k0 k1 k2 k3 k4 k5 k6 fk0 hkz x0 x1 x2 f0 f1 f2 y0 y1 y2 g0 g1 g2 hKV0 t1 u2 hR2 hO2
        obtain ⟨⟨k0, k1, k2, k3, k4, k5, k6⟩, _⟩ := rowSeven hKV
        obtain ⟨y0, y1, y2, g0, g1, g2⟩ := rowThree hOV
        have hkz := lt_of_cell k0
        have hyz := lt_of_cell y0
        have kN : Below V.heap.size V (V.alloc (.cells #[.int .i64 3, .int .i64 tx, .int .i64 bk, .bool rh, .int .i64 ro, .bool bh, .int .i64 bv] 71)) := (Below.refl _ _).alloc (Nat.le_refl _) _
        have oN := owns_below recV kN
        have hC := new_rec (w := V) (r := ⟨3, tx, bk, rh, ro, bh, bv⟩) (t := 71) (H := w2.heap.size) zV.symm
        have hb3 : w.heap.size + 1 ≤ (V.alloc (.cells #[.int .i64 3, .int .i64 tx, .int .i64 bk, .bool rh, .int .i64 ro, .bool bh, .int .i64 bv] 71)).heap.size := by simp; omega
        have hON := block_below kN hOV
        go_wp2_with (at_builtin; go_must (refine wpList_appRc (.tmp 53) (.tmp 55) ?_ ?_ (w.heap.size + 1) (.slice r p q) p rs w2.heap.size 1 ⟨3, tx, bk, rh, ro, bh, bv⟩ ?_ ?_ oN hC hpl hb3 ?_; exact rfl; exact rfl; exact rfl; exact rfl; intro a5 c5 w5 own5 gr5 at5; have hO5 := block_grown gr5 hON hOR; obtain ⟨e0, e1, e2, d0, d1, d2⟩ := rowThree hO5; have lv5 := lt_of_cell e0))
        go_roundw
        case rel =>
          have g5 := gr5.size
          have gN := kN.size
          have hR5 := block_grown gr5 (block_below kN hRV) (fun e => by have := (K2 _ e).1; omega)
          have bN := bV.trans (kN.mono bV.size)
          have b5 := bN.grown gr5 bN.size (fun g hg => by have := (K2 g hg).1; omega)
          refine ⟨i, a2, m2, c2, a5, p + 1, c5, by omega, by go_num, by rw [HX.out]; rfl, (Below.heap_setCell _ _ _ _ (by show w.heap.size ≠ O; omega)).trans hR5, ?_, ?_, by simp; omega, b5.setCell (p := ⟨O, 2, none⟩) (by show w.heap.size ≤ O; omega) _⟩
          · have := Joins.block_setCell (i := 2) hO5 (.slice a5 (p + 1) c5)
            simpa using this
          · rw [HX.out]
            have hnO : ∀ g, (Value.slice a5 (p + 1) c5).ownBlock = some g → g ≠ O := fun g hg e => by
              rcases at5 g hg with h | h
              · exact rO g h e
              · omega
            obtain ⟨hl, ho, hi', hd, hd'⟩ := lvV.below kN
            have l5 : OwnV w5 wr.heap.size (.slice a2 m2 c2) m2 vs2 nl := by
              refine ⟨hl, owns_grown ho gr5 (fun g hg hk => by have := (K2 g hk).2; have := t4 g hg; omega), fun j hlt => ?_, hd, hd'⟩
              obtain ⟨x, e1, e2⟩ := hi' j hlt
              exact ⟨x, e1, owns_grown e2 gr5 (fun g hg hk => by have := (K2 g hk).2; have := t5 j x g e1 hg; omega)⟩
            refine ⟨vs2, lo2, hi2, (l5.store3 (q := O) (o := 2) (by omega) (.slice a5 (p + 1) c5)).base (by omega), owns_set (o := 2) own5 hnO (.slice a5 (p + 1) c5), by omega, by simp; omega, t4, t5, fun g hg => ⟨?_, hnO g hg⟩, .inl (by omega)⟩
            rcases at5 g hg with h | h
            · have := (K2 g h).2; exact .inl (by omega)
            · exact .inr (by omega)
        case measure => simp [intOf]

set_option linter.unusedSimpArgs false in
set_option maxHeartbeats 4000000 in
theorem specUndoAll_any (a : Option Addr) (n cap : Nat) (tx : Int) (ab : Option Addr) (nb cb : Nat) (ls : List (List Ch.Row)) (bs : List Ch.Bf) (w : World) (h : LvAt w a n ls) (hs : Ch.lvSize ls ≤ 1048576) (hb : CellsAt w ab (nb * 3) (bfcells bs)) (hnb : nb ≤ 1048576) :
    Calls Try.prog 44 #[.slice a n cap, .int .i64 tx, .slice ab nb cb] w fun e w' => ∃ a' m c' r p q, e = .returned (.agg #[.int .i64 (Ch.undoR ls tx bs).1, .slice a' m c', .slice r p q]) ∧ OwnU w' w.heap.size (.slice a' m c') m (Ch.undoR ls tx bs).2.1 (.slice r p q) p (Ch.undoR ls tx bs).2.2 ∧ Below w.heap.size w w' := by
  have b0 : Below w.heap.size w (w.alloc (.cells #[.int .i64 0, .slice none 0 0, .slice none 0 0] 61)) := (Below.refl _ _).alloc (Nat.le_refl _) _
  have LI := fun W hW => specLv_any a n cap ls W hW hs
  have IT := fun W => l2Txn_any tx W
  have BI := fun W hW => specBefores_any ab nb cb bs W hW hnb
  obtain ⟨c, HC⟩ : ∃ c, Hid (Ch.leavesFault ls = c) := ⟨_, rfl⟩
  rw [HC.out] at LI
  by_cases h0 : c = 0
  rotate_left
  · have hc : (c != 0) = true := by simpa using h0
    have HX := hid (Ch.undoR_code (bs := bs) (Ch.setF_lv (tx := tx) (bs := bs) HC.out hc) hc)
    generalize Ch.undoR ls tx bs = X at *
    go_enter Try.func44, Try.ntmps44
    go_wp2_with fail
    refine (LI _ (h.below b0)).mono ?_
    rintro e w1 ⟨rfl, b1⟩
    obtain ⟨x0, x1, x2, f0, f1, f2⟩ := three_box b1
    have hz := lt_of_cell x0
    have bE := b0.trans (b1.mono b0.size)
    clear b1 LI
    go_wp2
    exact bodyPost_ret (v := .agg #[.int .i64 c, .slice none 0 0, .slice none 0 0]) (by simp [results, Try.results44, go_sem, x0, x1, x2]) rfl ⟨none, 0, 0, none, 0, 0, by rw [HX.out], by rw [HX.out]; exact OwnU.none _ _, ((bE.setCell (p := ⟨w.heap.size, 0, none⟩) (Nat.le_refl _) _).setCell (p := ⟨w.heap.size, 1, none⟩) (Nat.le_refl _) _).setCell (p := ⟨w.heap.size, 2, none⟩) (Nat.le_refl _) _⟩
  subst h0
  cases ht : Ch.inB tx 1 999
  · have HX := hid (Ch.undoR_code (Ch.setF_tx (bs := bs) HC.out ht) rfl)
    generalize Ch.undoR ls tx bs = X at *
    rw [ht] at IT
    go_enter Try.func44, Try.ntmps44
    go_wp2_with fail
    refine (LI _ (h.below b0)).mono ?_
    rintro e w1 ⟨rfl, b1⟩
    obtain ⟨x0, x1, x2, f0, f1, f2⟩ := three_box b1
    have hz := lt_of_cell x0
    have bE := b0.trans (b1.mono b0.size)
    clear b1 LI
    go_wp2_with fail
    refine (IT _).mono ?_
    rintro e w' ⟨rfl, rfl⟩
    go_wp2
    exact bodyPost_ret (v := .agg #[.int .i64 3, .slice none 0 0, .slice none 0 0]) (by simp [results, Try.results44, go_sem, x0, x1, x2]) rfl ⟨none, 0, 0, none, 0, 0, by rw [HX.out], by rw [HX.out]; exact OwnU.none _ _, ((bE.setCell (p := ⟨w.heap.size, 0, none⟩) (Nat.le_refl _) _).setCell (p := ⟨w.heap.size, 1, none⟩) (Nat.le_refl _) _).setCell (p := ⟨w.heap.size, 2, none⟩) (Nat.le_refl _) _⟩
  have hF : Ch.setF ls tx bs = Ch.befFault bs := by unfold Ch.setF; rw [HC.out, ht]; rfl
  obtain ⟨d, HD⟩ : ∃ d, Hid (Ch.befFault bs = d) := ⟨_, rfl⟩
  rw [HD.out] at BI
  rw [ht] at IT
  by_cases hd0 : d = 0
  rotate_left
  · have hd : (d != 0) = true := by simpa using hd0
    have HX := hid (Ch.undoR_code (hF.trans HD.out) hd)
    generalize Ch.undoR ls tx bs = X at *
    go_enter Try.func44, Try.ntmps44
    go_wp2_with fail
    refine (LI _ (h.below b0)).mono ?_
    rintro e w1 ⟨rfl, b1⟩
    obtain ⟨x0, x1, x2, f0, f1, f2⟩ := three_box b1
    have hz := lt_of_cell x0
    have bE := b0.trans (b1.mono b0.size)
    clear b1 LI
    go_wp2_with fail
    refine (IT _).mono ?_
    rintro e w' ⟨rfl, rfl⟩
    go_wp2_with fail
    refine (BI _ (hb.below bE)).mono ?_
    rintro e w2 ⟨rfl, b2⟩
    replace x0 := keep_cell b2 x0
    replace x1 := keep_cell b2 x1
    replace x2 := keep_cell b2 x2
    replace f0 := ((bcell b2).2 w.heap.size 0 hz).trans f0
    replace f1 := ((bcell b2).2 w.heap.size 1 hz).trans f1
    replace f2 := ((bcell b2).2 w.heap.size 2 hz).trans f2
    replace hz := lt_of_cell x0
    replace bE := bE.trans (b2.mono bE.size)
    clear b2 BI
    go_wp2
    exact bodyPost_ret (v := .agg #[.int .i64 d, .slice none 0 0, .slice none 0 0]) (by simp [results, Try.results44, go_sem, x0, x1, x2]) rfl ⟨none, 0, 0, none, 0, 0, by rw [HX.out], by rw [HX.out]; exact OwnU.none _ _, ((bE.setCell (p := ⟨w.heap.size, 0, none⟩) (Nat.le_refl _) _).setCell (p := ⟨w.heap.size, 1, none⟩) (Nat.le_refl _) _).setCell (p := ⟨w.heap.size, 2, none⟩) (Nat.le_refl _) _⟩
  · subst hd0
    have hS : Ch.setF ls tx bs = 0 := hF.trans HD.out
    have hn40 : nb ≤ 40 := by have := Ch.setF_few hS; have := hb.bflen.out; omega
    have hbo : Ch.befOne bs = 0 := by
      have := HD.out
      unfold Ch.befFault at this
      rw [if_neg (by have := Ch.setF_few hS; omega)] at this
      exact this
    have UI := fun W hW hb' => l8Undo_any a n cap tx ab nb cb ls bs W hW HC.out ht hbo hb' hn40
    have HX := hid (Ch.undoR_ok hS)
    rw [HX.out]
    generalize Ch.backAll tx ls bs = st at *
    clear hF hS hbo HX
    go_enter Try.func44, Try.ntmps44
    go_wp2_with fail
    refine (LI _ (h.below b0)).mono ?_
    rintro e w1 ⟨rfl, b1⟩
    obtain ⟨x0, x1, x2, f0, f1, f2⟩ := three_box b1
    have hz := lt_of_cell x0
    have bE := b0.trans (b1.mono b0.size)
    clear b1 LI
    go_wp2_with fail
    refine (IT _).mono ?_
    rintro e w' ⟨rfl, rfl⟩
    go_wp2_with fail
    refine (BI _ (hb.below bE)).mono ?_
    rintro e w2 ⟨rfl, b2⟩
    replace x0 := keep_cell b2 x0
    replace x1 := keep_cell b2 x1
    replace x2 := keep_cell b2 x2
    replace f0 := ((bcell b2).2 w.heap.size 0 hz).trans f0
    replace f1 := ((bcell b2).2 w.heap.size 1 hz).trans f1
    replace f2 := ((bcell b2).2 w.heap.size 2 hz).trans f2
    replace hz := lt_of_cell x0
    replace bE := bE.trans (b2.mono bE.size)
    clear b2 BI
    go_wp2_with fail
    refine (UI _ (h.below bE) (hb.below bE)).mono ?_
    rintro e w3 ⟨a2, m2, c2, r2, p2, q2, rfl, U2, b3⟩
    replace x0 := keep_cell b3 x0
    replace x1 := keep_cell b3 x1
    replace x2 := keep_cell b3 x2
    replace f0 := ((bcell b3).2 w.heap.size 0 hz).trans f0
    replace f1 := ((bcell b3).2 w.heap.size 1 hz).trans f1
    replace f2 := ((bcell b3).2 w.heap.size 2 hz).trans f2
    have bF := bE.trans (b3.mono bE.size)
    go_wp2
    refine bodyPost_ret (v := .agg #[.int .i64 st.1, .slice a2 m2 c2, .slice r2 p2 q2]) (by simp [results, Try.results44, go_sem, x0, x1, x2]) rfl ⟨a2, m2, c2, r2, p2, q2, rfl, ?_, ((bF.setCell (p := ⟨w.heap.size, 0, none⟩) (Nat.le_refl _) _).setCell (p := ⟨w.heap.size, 1, none⟩) (Nat.le_refl _) _).setCell (p := ⟨w.heap.size, 2, none⟩) (Nat.le_refl _) _⟩
    exact (((U2.low hz _).low hz _).low hz _).base (Nat.le_of_lt hz)
end Go.Proofs.Ytjagobcogkdfhaa
