/- Several texts in one: UndS, MrgM, FillI, SameI, LvsN, SetsL, AppX, DrwU, UndN, RecI, RecL, UndsL, Open. -/
import Derived.Test.YthfanfnbjldddaaMz1
import Derived.Deep.DeepCutAuto
import Derived.Test.YthfanfnbjldddaaGoodM
import Derived.Test.YthfanfnbjldddaaAllI
import Derived.BigQuiet
import Derived.Laws.StructEq
import Derived.Test.YthfanfnbjldddaaLvsM
import Derived.Test.YthfanfnbjldddaaFindI
import Derived.Test.YthfanfnbjldddaaDrwS
import Derived.Test.YthfanfnbjldddaaMz2
import Derived.Test.YthfanfnbjldddaaProg
import Derived.Test.YthfanfnbjldddaaBase
import Derived.Deep.QuietTactic
import Derived.Deep.RegionWith
import Derived.Deep.RegionLaw
import Derived.Lib.SliceRun
import Derived.Laws.IdiomCopy
import Derived.Maps.AppendAt
import Derived.Lib.AppendZeros
import Derived.Test.YthfanfnbjldddaaDrawY
import Derived.Lib.SmallJoins
import Derived.ProofKit
import Derived.OpenShut
import Derived.ChangeOld
import Derived.Deep.Fields


/- UndoAll of the model. -/
namespace Go.Proofs.Ythfanfnbjldddaa
open Go.RowKit

theorem heap_seven {w : World} {R : Nat} {t : TypeId} {u0 u1 u2 u3 u4 u5 u6 : Value} (h : w.heap[R]? = some (.cells #[u0, u1, u2, u3, u4, u5, u6] t (0, 0))) (v0 v1 v2 v3 v4 v5 v6 : Value) : (((((((w.setCell ⟨R, 0, none⟩ v0).setCell ⟨R, 1, none⟩ v1).setCell ⟨R, 2, none⟩ v2).setCell ⟨R, 3, none⟩ v3).setCell ⟨R, 4, none⟩ v4).setCell ⟨R, 5, none⟩ v5).setCell ⟨R, 6, none⟩ v6).heap[R]? = some (.cells #[v0, v1, v2, v3, v4, v5, v6] t (0, 0)) := by
  have h0 := Joins.block_setCell (i := 0) h v0
  have h1 := Joins.block_setCell (i := 1) h0 v1
  have h2 := Joins.block_setCell (i := 2) h1 v2
  have h3 := Joins.block_setCell (i := 3) h2 v3
  have h4 := Joins.block_setCell (i := 4) h3 v4
  have h5 := Joins.block_setCell (i := 5) h4 v5
  have h6 := Joins.block_setCell (i := 6) h5 v6
  simpa using h6
/-- Leaves of one's own from lo to hi, a block K outside. -/
def LvK (w : World) (B K : Nat) (lv : Value) (m : Nat) (ls : List (List Ch.Row)) : Prop :=
  ∃ vs lo hi, OwnV w B lv m vs ls ∧ B ≤ lo ∧ hi ≤ w.heap.size ∧ (∀ g, lv.ownBlock = some g → lo ≤ g ∧ g < hi) ∧ (∀ (i : Nat) (x : Value) (g : Nat), vs[i]? = some x → x.ownBlock = some g → lo ≤ g ∧ g < hi) ∧ (K < lo ∨ hi ≤ K)

/-- Leaves and records in a box O: apart from one another and from it. -/
def OwnO (w : World) (B O : Nat) (lv : Value) (m : Nat) (ls : List (List Ch.Row)) (rv : Value) (p : Nat) (rs : List Ch.Rec) : Prop :=
  ∃ vs lo hi, OwnV w B lv m vs ls ∧ w.ownsRow B 41 7 rv p (rc7 rs) ∧ B ≤ lo ∧ hi ≤ w.heap.size ∧ (∀ g, lv.ownBlock = some g → lo ≤ g ∧ g < hi) ∧ (∀ (i : Nat) (x : Value) (g : Nat), vs[i]? = some x → x.ownBlock = some g → lo ≤ g ∧ g < hi) ∧ (∀ g, rv.ownBlock = some g → (g < lo ∨ hi ≤ g) ∧ g ≠ O) ∧ (O < lo ∨ hi ≤ O)
theorem OwnO.own {w : World} {B O m p : Nat} {lv rv : Value} {ls : List (List Ch.Row)} {rs : List Ch.Rec} (h : OwnO w B O lv m ls rv p rs) : OwnU w B lv m ls rv p rs := by
  obtain ⟨vs, lo, hi, h1, h2, h3, h4, h5, h6, h7, _⟩ := h
  exact ⟨vs, lo, hi, h1, h2, h3, h4, h5, h6, fun g hg => (h7 g hg).1⟩
theorem Ch.bef_fine {bs : List Ch.Bf} (h : Ch.befOne bs = 0) {k : Nat} (hk : k < bs.length) : (bs.getD k Ch.Bf.zero).fault = 0 := Ch.bef_ok h _ (by simp [List.getD, hk])
theorem Ch.fine_parts {k v : Int} {h : Bool} (hf : (⟨k, h, v⟩ : Ch.Bf).fault = 0) : Ch.inB k 0 99 = true := by
  unfold Ch.Bf.fault at hf
  by_cases h1 : (!Ch.inB k 0 99 || !Ch.inB v 0 9999) = true
  · rw [if_pos h1] at hf; cases hf
  · simp only [Bool.or_eq_true, Bool.not_eq_true', not_or, Bool.not_eq_false] at h1
    exact h1.1
/-- A step back where nothing is at fault. -/
theorem Ch.back_set {tx k v : Int} {h : Bool} {ls : List (List Ch.Row)} {rs : List Ch.Rec} (hg : Ch.leavesFault ls = 0) (ht : Ch.inB tx 1 999 = true) (hf : (⟨k, h, v⟩ : Ch.Bf).fault = 0) :
    ((Ch.setLs ls k h v).1 = 0 → Ch.backOne tx (0, ls, rs) ⟨k, h, v⟩ = (0, (Ch.setLs ls k h v).2, rs ++ [⟨3, tx, k, (Ch.bf k (Ch.has ls k)).h, (Ch.bf k (Ch.has ls k)).v, h, v⟩])) ∧ (∀ c, (Ch.setLs ls k h v).1 = c → (c != 0) = true → Ch.backOne tx (0, ls, rs) ⟨k, h, v⟩ = (c, [], [])) := by
  have hF : Ch.setF ls tx [⟨k, h, v⟩] = 0 := by rw [Ch.setF_bf hg ht]; exact hf
  refine ⟨fun hs => ?_, fun c hs hc => ?_⟩
  · have e := Ch.setR_ok hF hs
    rw [Ch.back_ok (b := ⟨k, h, v⟩) (by rw [e]), e]
    rfl
  · exact Ch.back_many (b := ⟨k, h, v⟩) (by rw [Ch.setR_many hF hs hc]) hc
theorem Ch.back_stands {tx c : Int} {ls l : List (List Ch.Row)} {rs : List Ch.Rec} {bs : List Ch.Bf} {k : Nat} (hc : (c != 0) = true) (h : Ch.backAll tx ls (bs.drop k) = (c, l, rs)) : Ch.backAll tx ls bs = (c, l, rs) := by
  induction k with
  | zero => rwa [List.drop_zero] at h
  | succ k ih =>
    by_cases hk : k < bs.length
    · exact ih (by rw [Ch.back_next hk, h, Ch.back_code hc])
    · refine ih ?_
      rw [List.drop_of_length_le (by omega)] at h ⊢
      exact h

set_option linter.unusedSimpArgs false in
set_option maxRecDepth 20000 in
set_option maxHeartbeats 8000000 in
theorem l8Undo_any (a : Option Addr) (n cap : Nat) (tx : Int) (ab : Option Addr) (nb cb : Nat) (ls : List (List Ch.Row)) (bs : List Ch.Bf) (w : World) (h : LvAt w a n ls) (hg : Ch.leavesFault ls = 0) (ht : Ch.inB tx 1 999 = true) (hf : Ch.befOne bs = 0) (hb : CellsAt w ab (nb * 3) (bfcells bs)) (hnb : nb ≤ 40) :
    Calls Try.prog 74 #[.slice a n cap, .int .i64 tx, .slice ab nb cb] w fun e w' => ∃ a' m c' r p q, e = .returned (.agg #[.int .i64 (Ch.backAll tx ls bs).1, .slice a' m c', .slice r p q]) ∧ OwnU w' w.heap.size (.slice a' m c') m (Ch.backAll tx ls bs).2.1 (.slice r p q) p (Ch.backAll tx ls bs).2.2 ∧ Below w.heap.size w w' := by
  have hs := Ch.good_size hg
  have HL := hb.bflen
  have hgl : ∀ k, k < n → (ls.getD k []).length ≠ 0 := fun k hk => (Ch.good_leaf hg k (by have := h.len.out; omega)).1
  have b0 : Below w.heap.size w (w.alloc (.cells #[.int .i64 0, .slice none 0 0, .slice none 0 0] 29)) := (Below.refl _ _).alloc (Nat.le_refl _) _
  go_enter Try.func74, Try.ntmps74
  go_wp2_with fail
  refine (specCopy_any a n cap ls _ (h.below b0) hs hgl).mono ?_
  rintro e w1 ⟨a1, c1, rfl, o1, b1⟩
  have hR1 := block_below b1 (heap_alloc_new w _)
  have bE := below_box b1
  have z1 := b1.size
  simp at z1
  obtain ⟨vs, o1⟩ := o1.told
  have o1' : OwnV w1 (w.heap.size + 1) (.slice a1 n c1) n vs ls := by simpa using o1
  clear o1 b1 b0
  have hR2 := (Below.heap_alloc w1 (.cells #[.int .i64 0, .slice a1 n c1, .slice none 0 0] 29) _ (by omega)).trans hR1
  have kO : Below w1.heap.size w1 (w1.alloc (.cells #[.int .i64 0, .slice a1 n c1, .slice none 0 0] 29)) := (Below.refl _ _).alloc (Nat.le_refl _) _
  go_wp2
  go_loopw [8] (fun i wr => ∃ (k : Nat) (al : Option Addr) (ml cl : Nat) (r : Option Addr) (p q : Nat), k ≤ nb ∧ i = .int .i64 ((k : Int) - 1) ∧ Hid ((Ch.backAll tx ls (bs.drop k)).1 = 0) ∧ wr.heap[w.heap.size]? = some (.cells #[.int .i64 0, .slice none 0 0, .slice none 0 0] 29 (0, 0)) ∧ wr.heap[w1.heap.size]? = some (.cells #[.int .i64 0, .slice al ml cl, .slice r p q] 29 (0, 0)) ∧ OwnO wr (w.heap.size + 1) w1.heap.size (.slice al ml cl) ml (Ch.backAll tx ls (bs.drop k)).2.1 (.slice r p q) p (Ch.backAll tx ls (bs.drop k)).2.2 ∧ w1.heap.size + 1 ≤ wr.heap.size ∧ Below w.heap.size w wr) (fun i _ => (intOf i + 1).toNat)
  case atStart =>
    have hend := Ch.back_end (tx := tx) (ls := ls) (bs := bs) (k := nb) (by have := HL.out; omega)
    refine ⟨nb, a1, n, c1, none, 0, 0, Nat.le_refl _, rfl, by rw [hend]; rfl, hR2, heap_alloc_new w1 _, ?_, by simp, bE.alloc bE.size _⟩
    rw [hend]
    exact ⟨vs, w.heap.size + 1, w1.heap.size, o1'.below kO, World.ownsRow_nil _ _ _ _, Nat.le_refl _, by simp, owns_lt o1'.2.1, o1'.lt, fun g hg => by simp [Value.ownBlock] at hg, .inr (Nat.le_refl _)⟩
  case round =>
    clear hR2 kO o1' hR1
    obtain ⟨k, al, ml, cl, r, p, q, hk, rfl, H0, hR, hO, UO, hsz, hB⟩ := hrel
    have hzw : w.heap.size < wr.heap.size := (Array.getElem?_eq_some_iff.1 hR).1
    have hzo : w1.heap.size < wr.heap.size := (Array.getElem?_eq_some_iff.1 hO).1
    obtain ⟨x0, x1, x2, f0, f1, f2⟩ := rowThree hR
    obtain ⟨y0, y1, y2, g0, g1, g2⟩ := rowThree hO
    cases k with
    | zero =>
      rw [List.drop_zero] at H0 UO
      have hm1 : (((0 : Nat) : Int) - 1) = -1 := by omega
      rw [hm1]
      have hdec : decide ((0 : Int) ≤ -1) = false := by decide
      have UU := UO.own
      clear UO
      go_wp2
      refine bodyPost_ret (v := .agg #[.int .i64 0, .slice al ml cl, .slice r p q]) (by simp [results, Try.results74, go_sem, x0, x1, x2]) rfl ⟨al, ml, cl, r, p, q, by rw [H0.out], ?_, ((hB.setCell (p := ⟨w.heap.size, 0, none⟩) (Nat.le_refl _) _).setCell (p := ⟨w.heap.size, 1, none⟩) (Nat.le_refl _) _).setCell (p := ⟨w.heap.size, 2, none⟩) (Nat.le_refl _) _⟩
      exact (((UU.low (Nat.lt_succ_self _) _).low (Nat.lt_succ_self _) _).low (Nat.lt_succ_self _) _).base (Nat.le_succ _)
    | succ i =>
      have hil : i < bs.length := by have := HL.out; omega
      have hin : i < nb := by omega
      have hm1 : (((i + 1 : Nat) : Int) - 1) = (i : Int) := by omega
      rw [hm1]
      have keep := Ch.back_keeps (tx := tx) hg (bs.drop (i + 1))
      have hnext := hid (Ch.back_next (tx := tx) (ls := ls) hil)
      have hfi := Ch.bef_fine hf hil
      have hstand := hid (fun c hc h => Ch.back_stands (tx := tx) (c := c) (ls := ls) (l := []) (rs := []) (bs := bs) (k := i) hc h)
      obtain ⟨b, off, rfl, q0, q1, q2⟩ := (hb.below hB).bef (show i < nb by omega)
      have hbl := lt_of_cell q0
      generalize bs.getD i Ch.Bf.zero = bb at *
      obtain ⟨bk, bh, bv⟩ := bb
      simp only at q0 q1 q2
      generalize hst : Ch.backAll tx ls (bs.drop (i + 1)) = st at *
      obtain ⟨sc, l, rs⟩ := st
      have hsc : sc = 0 := H0.out
      subst hsc
      have hlg : Ch.leavesFault l = 0 := keep.2.2 rfl
      have hpl : p ≤ 1048576 := by have h1 := UO.own.len.2; have h2 := keep.2.1; have h3 := HL.out; simp at h1 h2; omega
      have hset := hid (Ch.back_set (rs := rs) hlg ht hfi)
      have LV := UO.own.lv (Ch.good_size hlg)
      have SI := fun W hW => l8Set_any al ml cl tx bk bh bv l W hW hlg (Ch.fine_parts hfi)
      generalize Ch.bf bk (Ch.has l bk) = bb at *
      obtain ⟨_, rh, ro⟩ := bb
      generalize Ch.setLs l bk bh bv = Y at *
      obtain ⟨yc, nl⟩ := Y
      simp only at hset SI
      clear hst keep hfi H0
      generalize hOO : w1.heap.size = O at *
      go_upto_region 5 with fail
      go_cut [9, 10, 11] (fun s9 s10 s11 wx => ∃ K a2 m2 c2, s9 = .slice a2 m2 c2 ∧ s10 = .pointer (some ⟨K, 0, none⟩) ∧ s11 = .int .i64 yc ∧ wx.heap[K]? = some (.cells #[.int .i64 2, .int .i64 tx, .int .i64 bk, .bool rh, .int .i64 ro, .bool bh, .int .i64 bv] 41 (0, 0)) ∧ LvK wx wr.heap.size K (.slice a2 m2 c2) m2 nl ∧ wr.heap.size ≤ K ∧ Below wr.heap.size wr wx)
      case first =>
        have HS : Hid (∀ W', Below wr.heap.size wr W' → W'.cell? ⟨O, 1, none⟩ = some (.slice al ml cl) ∧ W'.cell? ⟨b, off + i * 3, none⟩ = some (.int .i64 bk) ∧ W'.cell? ⟨b, off + i * 3 + 1, none⟩ = some (.bool bh) ∧ W'.cell? ⟨b, off + i * 3 + 2, none⟩ = some (.int .i64 bv) ∧ Below wr.heap.size wr W') := fun W' hW => ⟨keep_cell hW y1, keep_cell hW q0, keep_cell hW q1, keep_cell hW q2, hW⟩
        refine wp_region_noPanic ?_
        refine wp_region_held_drew (S := fun W' => W'.cell? ⟨O, 1, none⟩ = some (.slice al ml cl) ∧ W'.cell? ⟨b, off + i * 3, none⟩ = some (.int .i64 bk) ∧ W'.cell? ⟨b, off + i * 3 + 1, none⟩ = some (.bool bh) ∧ W'.cell? ⟨b, off + i * 3 + 2, none⟩ = some (.int .i64 bv) ∧ Below wr.heap.size wr W') (by kernel_rfl) (HS.out _ (Below.refl _ _).drew) (fun hH => ?_)
        have hwd : wr.heap.size ≤ wr.drew.heap.size := (Below.refl wr.heap.size wr).drew.size
        generalize wr.drew = wd at *
        refine hTake (i := 0) (v := ?_) rfl (by kernel_rfl) (by kernel_rfl) (by kernel_rfl) (by rfl) ?_ hH ?_
        rotate_left
        · intro W hW; (try dsimp only at hW); go_simp <;> with_reducible rfl
        simp only [Act.put, List.setIfInBounds_toArray, List.set_cons_zero, List.set_cons_succ]
        refine hTake (i := 1) (v := ?_) rfl (by kernel_rfl) (by kernel_rfl) (by kernel_rfl) (by rfl) ?_ hH ?_
        rotate_left
        · intro W hW; (try dsimp only at hW); go_simp <;> with_reducible rfl
        simp only [Act.put, List.setIfInBounds_toArray, List.set_cons_zero, List.set_cons_succ]
        refine hTake (i := 2) (v := ?_) rfl (by kernel_rfl) (by kernel_rfl) (by kernel_rfl) (by rfl) ?_ hH ?_
        rotate_left
        · intro W hW; (try dsimp only at hW); go_simp <;> with_reducible rfl
        simp only [Act.put, List.setIfInBounds_toArray, List.set_cons_zero, List.set_cons_succ]
        refine hTake (i := 3) (v := ?_) rfl (by kernel_rfl) (by kernel_rfl) (by kernel_rfl) (by rfl) ?_ hH ?_
        rotate_left
        · intro W hW; (try dsimp only at hW); go_simp <;> with_reducible rfl
        simp only [Act.put, List.setIfInBounds_toArray, List.set_cons_zero, List.set_cons_succ]
        refine hTake (i := 4) (v := ?_) rfl (by kernel_rfl) (by kernel_rfl) (by kernel_rfl) (by rfl) ?_ hH ?_
        rotate_left
        · intro W hW; (try dsimp only at hW); go_simp <;> with_reducible rfl
        simp only [Act.put, List.setIfInBounds_toArray, List.set_cons_zero, List.set_cons_succ]
        refine hTake (i := 5) (v := ?_) rfl (by kernel_rfl) (by kernel_rfl) (by kernel_rfl) (by rfl) ?_ hH ?_
        rotate_left
        · intro W hW; (try dsimp only at hW); go_simp <;> with_reducible rfl
        simp only [Act.put, List.setIfInBounds_toArray, List.set_cons_zero, List.set_cons_succ]
        refine hTake (i := 6) (v := ?_) rfl (by kernel_rfl) (by kernel_rfl) (by kernel_rfl) (by rfl) ?_ hH ?_
        rotate_left
        · intro W hW; (try dsimp only at hW); go_simp <;> with_reducible rfl
        simp only [Act.put, List.setIfInBounds_toArray, List.set_cons_zero, List.set_cons_succ]
        refine hTake (i := 7) (v := ?_) rfl (by kernel_rfl) (by kernel_rfl) (by kernel_rfl) (by rfl) ?_ hH ?_
        rotate_left
        · intro W hW; (try dsimp only at hW); go_simp <;> with_reducible rfl
        simp only [Act.put, List.setIfInBounds_toArray, List.set_cons_zero, List.set_cons_succ]
        refine hTake (i := 8) (v := ?_) rfl (by kernel_rfl) (by kernel_rfl) (by kernel_rfl) (by rfl) ?_ hH ?_
        rotate_left
        · intro W hW; (try dsimp only at hW); go_simp <;> with_reducible rfl
        simp only [Act.put, List.setIfInBounds_toArray, List.set_cons_zero, List.set_cons_succ]
        refine hTake (i := 9) (v := ?_) rfl (by kernel_rfl) (by kernel_rfl) (by kernel_rfl) (by rfl) ?_ hH ?_
        rotate_left
        · intro W hW; (try dsimp only at hW); go_simp <;> with_reducible rfl
        simp only [Act.put, List.setIfInBounds_toArray, List.set_cons_zero, List.set_cons_succ]
        refine hTake (i := 10) (v := ?_) rfl (by kernel_rfl) (by kernel_rfl) (by kernel_rfl) (by rfl) ?_ hH ?_
        rotate_left
        · intro W hW; (try dsimp only at hW); go_simp <;> with_reducible rfl
        simp only [Act.put, List.setIfInBounds_toArray, List.set_cons_zero, List.set_cons_succ]
        refine hTake (i := 11) (v := ?_) rfl (by kernel_rfl) (by kernel_rfl) (by kernel_rfl) (by rfl) ?_ hH ?_
        rotate_left
        · intro W hW; (try dsimp only at hW); go_simp <;> with_reducible rfl
        simp only [Act.put, List.setIfInBounds_toArray, List.set_cons_zero, List.set_cons_succ]
        refine hTake (i := 12) (v := ?_) rfl (by kernel_rfl) (by kernel_rfl) (by kernel_rfl) (by rfl) ?_ hH ?_
        rotate_left
        · intro W hW; (try dsimp only at hW); go_simp <;> with_reducible rfl
        simp only [Act.put, List.setIfInBounds_toArray, List.set_cons_zero, List.set_cons_succ]
        refine hTake (i := 13) (v := ?_) rfl (by kernel_rfl) (by kernel_rfl) (by kernel_rfl) (by rfl) ?_ hH ?_
        rotate_left
        · intro W hW; (try dsimp only at hW); go_simp <;> with_reducible rfl
        simp only [Act.put, List.setIfInBounds_toArray, List.set_cons_zero, List.set_cons_succ]
        refine hTake (i := 14) (v := ?_) rfl (by kernel_rfl) (by kernel_rfl) (by kernel_rfl) (by rfl) ?_ hH ?_
        rotate_left
        · intro W hW; (try dsimp only at hW); go_simp <;> with_reducible rfl
        simp only [Act.put, List.setIfInBounds_toArray, List.set_cons_zero, List.set_cons_succ]
        refine hTake (i := 15) (v := ?_) rfl (by kernel_rfl) (by kernel_rfl) (by kernel_rfl) (by rfl) ?_ hH ?_
        rotate_left
        · intro W hW; (try dsimp only at hW); go_simp <;> with_reducible rfl
        simp only [Act.put, List.setIfInBounds_toArray, List.set_cons_zero, List.set_cons_succ]
        refine hTake (i := 16) (v := ?_) rfl (by kernel_rfl) (by kernel_rfl) (by kernel_rfl) (by rfl) ?_ hH ?_
        rotate_left
        · intro W hW; (try dsimp only at hW); go_simp <;> with_reducible rfl
        simp only [Act.put, List.setIfInBounds_toArray, List.set_cons_zero, List.set_cons_succ]
        refine hTake (i := 17) (v := ?_) rfl (by kernel_rfl) (by kernel_rfl) (by kernel_rfl) (by rfl) ?_ hH ?_
        rotate_left
        · intro W hW; (try dsimp only at hW); go_simp <;> with_reducible rfl
        simp only [Act.put, List.setIfInBounds_toArray, List.set_cons_zero, List.set_cons_succ]
        refine wpAnyH_ready (rs := [18, 23]) (by kernel_rfl) (by simp) ?_
        refine AllReadyH.cons rfl (fun K hK => ?_) (AllReadyH.cons rfl (fun K hK => ?_) AllReadyH.nil)
        focus
          go_simp
          refine (SI _ (LV.below hH.2.2.2.2)).mono ?_
          rintro e v1 ⟨a2, m2, c2, rfl, o2, bv1⟩
          have Bv1 := hH.2.2.2.2.trans (bv1.mono hH.2.2.2.2.size)
          go_wp2_with fail
          refine hK.out _ _ ?_ (fun hH => ?_)
          · exact HS.out _ Bv1
          clear hK K
          refine hTake (i := 19) (v := ?_) rfl (by kernel_rfl) (by kernel_rfl) (by kernel_rfl) (by rfl) ?_ hH ?_
          rotate_left
          · intro W hW; (try dsimp only at hW); go_simp <;> with_reducible rfl
          simp only [Act.put, List.setIfInBounds_toArray, List.set_cons_zero, List.set_cons_succ]
          refine hTake (i := 20) (v := ?_) rfl (by kernel_rfl) (by kernel_rfl) (by kernel_rfl) (by rfl) ?_ hH ?_
          rotate_left
          · intro W hW; (try dsimp only at hW); go_simp <;> with_reducible rfl
          simp only [Act.put, List.setIfInBounds_toArray, List.set_cons_zero, List.set_cons_succ]
          refine hTake (i := 21) (v := ?_) rfl (by kernel_rfl) (by kernel_rfl) (by kernel_rfl) (by rfl) ?_ hH ?_
          rotate_left
          · intro W hW; (try dsimp only at hW); go_simp <;> with_reducible rfl
          simp only [Act.put, List.setIfInBounds_toArray, List.set_cons_zero, List.set_cons_succ]
          refine hTake (i := 22) (v := ?_) rfl (by kernel_rfl) (by kernel_rfl) (by kernel_rfl) (by rfl) ?_ hH ?_
          rotate_left
          · intro W hW; (try dsimp only at hW); go_simp <;> with_reducible rfl
          simp only [Act.put, List.setIfInBounds_toArray, List.set_cons_zero, List.set_cons_succ]
          refine wpAnyH_ready (rs := [23]) (by kernel_rfl) (by simp) ?_
          refine AllReadyH.cons rfl (fun K hK => ?_) AllReadyH.nil
          go_simp
          refine hK.out _ _ ?_ (fun hH => ?_)
          · exact HS.out _ (Bv1.alloc Bv1.size _)
          clear hK K
          refine hTake (i := 24) (v := ?_) rfl (by kernel_rfl) (by kernel_rfl) (by kernel_rfl) (by rfl) ?_ hH ?_
          rotate_left
          · intro W hW; (try dsimp only at hW); go_simp <;> with_reducible rfl
          simp only [Act.put, List.setIfInBounds_toArray, List.set_cons_zero, List.set_cons_succ]
          refine wpAnyH_ready (rs := [25]) (by kernel_rfl) (by simp) ?_
          refine AllReadyH.cons rfl (fun K hK => ?_) AllReadyH.nil
          go_simp
          refine hK.out _ _ ?_ (fun hH => ?_)
          · exact HS.out _ (Bv1.alloc Bv1.size _)
          clear hK K
          refine hTake (i := 26) (v := ?_) rfl (by kernel_rfl) (by kernel_rfl) (by kernel_rfl) (by rfl) ?_ hH ?_
          rotate_left
          · intro W hW; (try dsimp only at hW); go_simp <;> with_reducible rfl
          simp only [Act.put, List.setIfInBounds_toArray, List.set_cons_zero, List.set_cons_succ]
          refine wpAnyH_done (by kernel_rfl) ?_ _
          refine NoPanic.normal ?_
          go_wp2_with fail
          go_meet
          refine ⟨v1.heap.size, a2, m2, c2, rfl, rfl, rfl, heap_alloc_new v1 _, ?_, Bv1.size, Bv1.alloc Bv1.size _⟩
          obtain ⟨vs, o2⟩ := o2.told
          exact ⟨vs, wd.heap.size, v1.heap.size, (o2.below ((Below.refl _ _).alloc (Nat.le_refl _) _)).base hwd, hwd, by simp, owns_lt o2.2.1, o2.lt, .inr (Nat.le_refl _)⟩
        focus
          go_simp
          refine hK.out _ _ ?_ (fun hH => ?_)
          · exact HS.out _ (hH.2.2.2.2.alloc hH.2.2.2.2.size _)
          clear hK K
          have BA := hH.2.2.2.2
          refine wpAnyH_ready (rs := [18]) (by kernel_rfl) (by simp) ?_
          refine AllReadyH.cons rfl (fun K hK => ?_) AllReadyH.nil
          go_simp
          refine (SI _ (LV.below BA)).mono ?_
          rintro e v1 ⟨a2, m2, c2, rfl, o2, bv1⟩
          have hK1 := block_below bv1 (heap_alloc_new wd _)
          have Bv1 := BA.trans (bv1.mono BA.size)
          have zv := bv1.size
          simp at zv
          go_wp2_with fail
          refine hK.out _ _ ?_ (fun hH => ?_)
          · exact HS.out _ Bv1
          clear hK K
          obtain ⟨⟨k0, k1, k2, k3, k4, k5, k6⟩, fk⟩ := rowSeven hK1
          have f0 := fk 0
          have f1 := fk 1
          have f2 := fk 2
          have f3 := fk 3
          have f4 := fk 4
          have f5 := fk 5
          have f6 := fk 6
          have hkz := lt_of_cell k0
          clear fk
          refine hTake (i := 19) (v := ?_) rfl (by kernel_rfl) (by kernel_rfl) (by kernel_rfl) (by rfl) ?_ hH ?_
          rotate_left
          · intro W hW; (try dsimp only at hW); go_simp <;> with_reducible rfl
          simp only [Act.put, List.setIfInBounds_toArray, List.set_cons_zero, List.set_cons_succ]
          refine hTake (i := 20) (v := ?_) rfl (by kernel_rfl) (by kernel_rfl) (by kernel_rfl) (by rfl) ?_ hH ?_
          rotate_left
          · intro W hW; (try dsimp only at hW); go_simp <;> with_reducible rfl
          simp only [Act.put, List.setIfInBounds_toArray, List.set_cons_zero, List.set_cons_succ]
          refine hTake (i := 21) (v := ?_) rfl (by kernel_rfl) (by kernel_rfl) (by kernel_rfl) (by rfl) ?_ hH ?_
          rotate_left
          · intro W hW; (try dsimp only at hW); go_simp <;> with_reducible rfl
          simp only [Act.put, List.setIfInBounds_toArray, List.set_cons_zero, List.set_cons_succ]
          refine hTake (i := 22) (v := ?_) rfl (by kernel_rfl) (by kernel_rfl) (by kernel_rfl) (by rfl) ?_ hH ?_
          rotate_left
          · intro W hW; (try dsimp only at hW); go_simp <;> with_reducible rfl
          simp only [Act.put, List.setIfInBounds_toArray, List.set_cons_zero, List.set_cons_succ]
          refine hTake (i := 24) (v := ?_) rfl (by kernel_rfl) (by kernel_rfl) (by kernel_rfl) (by rfl) ?_ hH ?_
          rotate_left
          · intro W hW; (try dsimp only at hW); go_simp <;> with_reducible rfl
          simp only [Act.put, List.setIfInBounds_toArray, List.set_cons_zero, List.set_cons_succ]
          refine wpAnyH_ready (rs := [25]) (by kernel_rfl) (by simp) ?_
          refine AllReadyH.cons rfl (fun K hK => ?_) AllReadyH.nil
          go_simp
          refine hK.out _ _ ?_ (fun hH => ?_)
          · exact HS.out _ (below_store7 Bv1 hwd _ _ _ _ _ _ _)
          clear hK K
          refine hTake (i := 26) (v := ?_) rfl (by kernel_rfl) (by kernel_rfl) (by kernel_rfl) (by rfl) ?_ hH ?_
          rotate_left
          · intro W hW; (try dsimp only at hW); go_simp <;> with_reducible rfl
          simp only [Act.put, List.setIfInBounds_toArray, List.set_cons_zero, List.set_cons_succ]
          refine wpAnyH_done (by kernel_rfl) ?_ _
          refine NoPanic.normal ?_
          go_wp2_with fail
          go_meet
          refine ⟨wd.heap.size, a2, m2, c2, rfl, rfl, rfl, heap_seven hK1 _ _ _ _ _ _ _, ?_, hwd, below_store7 Bv1 hwd _ _ _ _ _ _ _⟩
          obtain ⟨vs, o2⟩ := o2.told
          have o3 : OwnV v1 (wd.heap.size + 1) (.slice a2 m2 c2) m2 vs nl := by simpa using o2
          exact ⟨vs, wd.heap.size + 1, v1.heap.size, (o3.store7 (Nat.lt_succ_self _) _ _ _ _ _ _ _).base (by omega), by omega, by simp, owns_lt o3.2.1, o3.lt, .inl (Nat.lt_succ_self _)⟩
      case rest =>
        obtain ⟨w2, hwn⟩ : ∃ x : World, x = wc := ⟨_, rfl⟩
        subst hwn
        obtain ⟨K, a2, m2, c2, rfl, rfl, rfl, hK, LK, hwK, bC⟩ := hcut
        have hR2 := block_below bC hR
        have hO2 := block_below bC hO
        obtain ⟨x0, x1, x2, f0, f1, f2⟩ := rowThree hR2
        obtain ⟨y0, y1, y2, g0, g1, g2⟩ := rowThree hO2
        obtain ⟨⟨k0, k1, k2, k3, k4, k5, k6⟩, fk⟩ := rowSeven hK
        have fk0 := fk 0
        have hkz := lt_of_cell k0
        have bW := hB.trans (bC.mono hB.size)
        clear fk
        by_cases hy : yc = 0
        rotate_left
        · have hyc : (yc != 0) = true := by simpa using hy
          have HX := hid (hstand.out yc hyc (hnext.out.trans (hset.out.2 yc rfl hyc)))
          clear hset hstand hnext
          go_wp2
          exact bodyPost_ret (v := .agg #[.int .i64 yc, .slice none 0 0, .slice none 0 0]) (by simp [results, Try.results74, go_sem, x0, x1, x2]) rfl ⟨none, 0, 0, none, 0, 0, by rw [HX.out], by rw [HX.out]; exact OwnU.none _ _, ((bW.setCell (p := ⟨w.heap.size, 0, none⟩) (Nat.le_refl _) _).setCell (p := ⟨w.heap.size, 1, none⟩) (Nat.le_refl _) _).setCell (p := ⟨w.heap.size, 2, none⟩) (Nat.le_refl _) _⟩
        subst hy
        have HX := hid (hnext.out.trans (hset.out.1 rfl))
        obtain ⟨vs1, lo1, hi1, u1, u2, u3, u4, u5, u6, u7, u8⟩ := UO
        have K2 := owns_lt u2
        have hOR : (Value.slice r p q).ownBlock ≠ some O := fun e => (u7 O e).2 rfl
        obtain ⟨vs2, lo2, hi2, t1, t2, t3, t4, t5, t6⟩ := LK
        clear hset hstand hnext u1 u3 u4 u5 u6 u7 u8
        have hKO : K ≠ O := by omega
        have hKR : K ≠ w.heap.size := by omega
        have rK : ∀ g, (Value.slice r p q).ownBlock = some g → g ≠ K := fun g hg => by have := (K2 g hg).2; omega
        have rO : ∀ g, (Value.slice r p q).ownBlock = some g → g ≠ O := fun g hg e => hOR (by rw [← e]; exact hg)
        have recV := owns_set (o := 1) (owns_set (o := 0) (owns_below u2 bC) rK (.int .i64 3)) rO (.slice a2 m2 c2)
        have lvV := (t1.store (p := K) (o := 0) (u := .int .i64 3) (fun g hg => by have := t4 g hg; omega) (fun i x g hx hg => by have := t5 i x g hx hg; omega)).store3 (q := O) (o := 1) (by omega) (.slice a2 m2 c2)
        have hKV0 := Joins.block_setCell (i := 0) hK (.int .i64 3)
        have hKV : ((w2.setCell ⟨K, 0, none⟩ (.int .i64 3)).setCell ⟨O, 1, none⟩ (.slice a2 m2 c2)).heap[K]? = some (.cells #[.int .i64 3, .int .i64 tx, .int .i64 bk, .bool rh, .int .i64 ro, .bool bh, .int .i64 bv] 41 (0, 0)) := (Below.heap_setCell _ _ _ _ (by exact hKO)).trans (by simpa using hKV0)
        have hOV := heap_mid ((Below.heap_setCell w2 ⟨K, 0, none⟩ (.int .i64 3) O (by exact fun e => hKO e.symm)).trans hO2) (.slice a2 m2 c2)
        have hRV : ((w2.setCell ⟨K, 0, none⟩ (.int .i64 3)).setCell ⟨O, 1, none⟩ (.slice a2 m2 c2)).heap[w.heap.size]? = some (.cells #[.int .i64 0, .slice none 0 0, .slice none 0 0] 29 (0, 0)) := (Below.heap_setCell _ _ _ _ (by show w.heap.size ≠ O; omega)).trans ((Below.heap_setCell _ _ _ _ (by show w.heap.size ≠ K; omega)).trans hR2)
        have bV := (bW.setCell (p := ⟨K, 0, none⟩) (by show w.heap.size ≤ K; omega) (.int .i64 3)).setCell (p := ⟨O, 1, none⟩) (by show w.heap.size ≤ O; omega) (.slice a2 m2 c2)
        have zV : ((w2.setCell ⟨K, 0, none⟩ (.int .i64 3)).setCell ⟨O, 1, none⟩ (.slice a2 m2 c2)).heap.size = w2.heap.size := by simp
        have zC := bC.size
        go_upto_region 10 with fail
        generalize (w2.setCell ⟨K, 0, none⟩ (.int .i64 3)).setCell ⟨O, 1, none⟩ (.slice a2 m2 c2) = V at *
        clear k0 k1 k2 k3 k4 k5 k6 fk0 hkz x0 x1 x2 f0 f1 f2 y0 y1 y2 g0 g1 g2 hKV0 t1 u2 hR2 hO2
        obtain ⟨⟨k0, k1, k2, k3, k4, k5, k6⟩, _⟩ := rowSeven hKV
        obtain ⟨y0, y1, y2, g0, g1, g2⟩ := rowThree hOV
        have hkz := lt_of_cell k0
        have hyz := lt_of_cell y0
        have kN : Below V.heap.size V (V.alloc (.cells #[.int .i64 3, .int .i64 tx, .int .i64 bk, .bool rh, .int .i64 ro, .bool bh, .int .i64 bv] 41)) := (Below.refl _ _).alloc (Nat.le_refl _) _
        have oN := owns_below recV kN
        have hC := new_rec (w := V) (r := ⟨3, tx, bk, rh, ro, bh, bv⟩) (t := 41) (H := w2.heap.size) zV.symm
        have hb3 : w.heap.size + 1 ≤ (V.alloc (.cells #[.int .i64 3, .int .i64 tx, .int .i64 bk, .bool rh, .int .i64 ro, .bool bh, .int .i64 bv] 41)).heap.size := by simp; omega
        have hON := block_below kN hOV
        go_wp2_with (at_builtin; go_must (refine wpList_appRc (.tmp 53) (.tmp 55) ?_ ?_ (w.heap.size + 1) (.slice r p q) p rs w2.heap.size 1 ⟨3, tx, bk, rh, ro, bh, bv⟩ ?_ ?_ oN hC hpl hb3 ?_; exact rfl; exact rfl; exact rfl; exact rfl; intro a5 c5 w5 own5 gr5 at5; have hO5 := block_grown gr5 hON hOR; obtain ⟨e0, e1, e2, d0, d1, d2⟩ := rowThree hO5; have lv5 := lt_of_cell e0))
        go_roundw
        case rel =>
          have g5 := gr5.size
          have gN := kN.size
          have hR5 := block_grown gr5 (block_below kN hRV) (fun e => by have := (K2 _ e).1; omega)
          have bN := bV.trans (kN.mono bV.size)
          have b5 := bN.grown gr5 bN.size (fun g hg => by have := (K2 g hg).1; omega)
          refine ⟨i, a2, m2, c2, a5, p + 1, c5, by omega, by go_num, by rw [HX.out]; rfl, (Below.heap_setCell _ _ _ _ (by show w.heap.size ≠ O; omega)).trans hR5, ?_, ?_, by simp; omega, b5.setCell (p := ⟨O, 2, none⟩) (by show w.heap.size ≤ O; omega) _⟩
          · have := Joins.block_setCell (i := 2) hO5 (.slice a5 (p + 1) c5)
            simpa using this
          · rw [HX.out]
            have hnO : ∀ g, (Value.slice a5 (p + 1) c5).ownBlock = some g → g ≠ O := fun g hg e => by
              rcases at5 g hg with h | h
              · exact rO g h e
              · omega
            obtain ⟨hl, ho, hi', hd, hd'⟩ := lvV.below kN
            have l5 : OwnV w5 wr.heap.size (.slice a2 m2 c2) m2 vs2 nl := by
              refine ⟨hl, owns_grown ho gr5 (fun g hg hk => by have := (K2 g hk).2; have := t4 g hg; omega), fun j hlt => ?_, hd, hd'⟩
              obtain ⟨x, e1, e2⟩ := hi' j hlt
              exact ⟨x, e1, owns_grown e2 gr5 (fun g hg hk => by have := (K2 g hk).2; have := t5 j x g e1 hg; omega)⟩
            refine ⟨vs2, lo2, hi2, (l5.store3 (q := O) (o := 2) (by omega) (.slice a5 (p + 1) c5)).base (by omega), owns_set (o := 2) own5 hnO (.slice a5 (p + 1) c5), by omega, by simp; omega, t4, t5, fun g hg => ⟨?_, hnO g hg⟩, .inl (by omega)⟩
            rcases at5 g hg with h | h
            · have := (K2 g h).2; exact .inl (by omega)
            · exact .inr (by omega)
        case measure => simp [intOf]

set_option linter.unusedSimpArgs false in
set_option maxHeartbeats 4000000 in
theorem specUndoAll_any (a : Option Addr) (n cap : Nat) (tx : Int) (ab : Option Addr) (nb cb : Nat) (ls : List (List Ch.Row)) (bs : List Ch.Bf) (w : World) (h : LvAt w a n ls) (hs : Ch.lvSize ls ≤ 1048576) (hb : CellsAt w ab (nb * 3) (bfcells bs)) (hnb : nb ≤ 1048576) :
    Calls Try.prog 23 #[.slice a n cap, .int .i64 tx, .slice ab nb cb] w fun e w' => ∃ a' m c' r p q, e = .returned (.agg #[.int .i64 (Ch.undoR ls tx bs).1, .slice a' m c', .slice r p q]) ∧ OwnU w' w.heap.size (.slice a' m c') m (Ch.undoR ls tx bs).2.1 (.slice r p q) p (Ch.undoR ls tx bs).2.2 ∧ Below w.heap.size w w' := by
  have b0 : Below w.heap.size w (w.alloc (.cells #[.int .i64 0, .slice none 0 0, .slice none 0 0] 29)) := (Below.refl _ _).alloc (Nat.le_refl _) _
  have LI := fun W hW => specLv_any a n cap ls W hW hs
  have IT := fun W => l2Txn_any tx W
  have BI := fun W hW => specBefores_any ab nb cb bs W hW hnb
  obtain ⟨c, HC⟩ : ∃ c, Hid (Ch.leavesFault ls = c) := ⟨_, rfl⟩
  rw [HC.out] at LI
  by_cases h0 : c = 0
  rotate_left
  · have hc : (c != 0) = true := by simpa using h0
    have HX := hid (Ch.undoR_code (bs := bs) (Ch.setF_lv (tx := tx) (bs := bs) HC.out hc) hc)
    generalize Ch.undoR ls tx bs = X at *
    go_enter Try.func23, Try.ntmps23
    go_wp2_with fail
    refine (LI _ (h.below b0)).mono ?_
    rintro e w1 ⟨rfl, b1⟩
    obtain ⟨x0, x1, x2, f0, f1, f2⟩ := three_box b1
    have hz := lt_of_cell x0
    have bE := b0.trans (b1.mono b0.size)
    clear b1 LI
    go_wp2
    exact bodyPost_ret (v := .agg #[.int .i64 c, .slice none 0 0, .slice none 0 0]) (by simp [results, Try.results23, go_sem, x0, x1, x2]) rfl ⟨none, 0, 0, none, 0, 0, by rw [HX.out], by rw [HX.out]; exact OwnU.none _ _, ((bE.setCell (p := ⟨w.heap.size, 0, none⟩) (Nat.le_refl _) _).setCell (p := ⟨w.heap.size, 1, none⟩) (Nat.le_refl _) _).setCell (p := ⟨w.heap.size, 2, none⟩) (Nat.le_refl _) _⟩
  subst h0
  cases ht : Ch.inB tx 1 999
  · have HX := hid (Ch.undoR_code (Ch.setF_tx (bs := bs) HC.out ht) rfl)
    generalize Ch.undoR ls tx bs = X at *
    rw [ht] at IT
    go_enter Try.func23, Try.ntmps23
    go_wp2_with fail
    refine (LI _ (h.below b0)).mono ?_
    rintro e w1 ⟨rfl, b1⟩
    obtain ⟨x0, x1, x2, f0, f1, f2⟩ := three_box b1
    have hz := lt_of_cell x0
    have bE := b0.trans (b1.mono b0.size)
    clear b1 LI
    go_wp2_with fail
    refine (IT _).mono ?_
    rintro e w' ⟨rfl, rfl⟩
    go_wp2
    exact bodyPost_ret (v := .agg #[.int .i64 3, .slice none 0 0, .slice none 0 0]) (by simp [results, Try.results23, go_sem, x0, x1, x2]) rfl ⟨none, 0, 0, none, 0, 0, by rw [HX.out], by rw [HX.out]; exact OwnU.none _ _, ((bE.setCell (p := ⟨w.heap.size, 0, none⟩) (Nat.le_refl _) _).setCell (p := ⟨w.heap.size, 1, none⟩) (Nat.le_refl _) _).setCell (p := ⟨w.heap.size, 2, none⟩) (Nat.le_refl _) _⟩
  have hF : Ch.setF ls tx bs = Ch.befFault bs := by unfold Ch.setF; rw [HC.out, ht]; rfl
  obtain ⟨d, HD⟩ : ∃ d, Hid (Ch.befFault bs = d) := ⟨_, rfl⟩
  rw [HD.out] at BI
  rw [ht] at IT
  by_cases hd0 : d = 0
  rotate_left
  · have hd : (d != 0) = true := by simpa using hd0
    have HX := hid (Ch.undoR_code (hF.trans HD.out) hd)
    generalize Ch.undoR ls tx bs = X at *
    go_enter Try.func23, Try.ntmps23
    go_wp2_with fail
    refine (LI _ (h.below b0)).mono ?_
    rintro e w1 ⟨rfl, b1⟩
    obtain ⟨x0, x1, x2, f0, f1, f2⟩ := three_box b1
    have hz := lt_of_cell x0
    have bE := b0.trans (b1.mono b0.size)
    clear b1 LI
    go_wp2_with fail
    refine (IT _).mono ?_
    rintro e w' ⟨rfl, rfl⟩
    go_wp2_with fail
    refine (BI _ (hb.below bE)).mono ?_
    rintro e w2 ⟨rfl, b2⟩
    replace x0 := keep_cell b2 x0
    replace x1 := keep_cell b2 x1
    replace x2 := keep_cell b2 x2
    replace f0 := ((bcell b2).2 w.heap.size 0 hz).trans f0
    replace f1 := ((bcell b2).2 w.heap.size 1 hz).trans f1
    replace f2 := ((bcell b2).2 w.heap.size 2 hz).trans f2
    replace hz := lt_of_cell x0
    replace bE := bE.trans (b2.mono bE.size)
    clear b2 BI
    go_wp2
    exact bodyPost_ret (v := .agg #[.int .i64 d, .slice none 0 0, .slice none 0 0]) (by simp [results, Try.results23, go_sem, x0, x1, x2]) rfl ⟨none, 0, 0, none, 0, 0, by rw [HX.out], by rw [HX.out]; exact OwnU.none _ _, ((bE.setCell (p := ⟨w.heap.size, 0, none⟩) (Nat.le_refl _) _).setCell (p := ⟨w.heap.size, 1, none⟩) (Nat.le_refl _) _).setCell (p := ⟨w.heap.size, 2, none⟩) (Nat.le_refl _) _⟩
  · subst hd0
    have hS : Ch.setF ls tx bs = 0 := hF.trans HD.out
    have hn40 : nb ≤ 40 := by have := Ch.setF_few hS; have := hb.bflen.out; omega
    have hbo : Ch.befOne bs = 0 := by
      have := HD.out
      unfold Ch.befFault at this
      rw [if_neg (by have := Ch.setF_few hS; omega)] at this
      exact this
    have UI := fun W hW hb' => l8Undo_any a n cap tx ab nb cb ls bs W hW HC.out ht hbo hb' hn40
    have HX := hid (Ch.undoR_ok hS)
    rw [HX.out]
    generalize Ch.backAll tx ls bs = st at *
    clear hF hS hbo HX
    go_enter Try.func23, Try.ntmps23
    go_wp2_with fail
    refine (LI _ (h.below b0)).mono ?_
    rintro e w1 ⟨rfl, b1⟩
    obtain ⟨x0, x1, x2, f0, f1, f2⟩ := three_box b1
    have hz := lt_of_cell x0
    have bE := b0.trans (b1.mono b0.size)
    clear b1 LI
    go_wp2_with fail
    refine (IT _).mono ?_
    rintro e w' ⟨rfl, rfl⟩
    go_wp2_with fail
    refine (BI _ (hb.below bE)).mono ?_
    rintro e w2 ⟨rfl, b2⟩
    replace x0 := keep_cell b2 x0
    replace x1 := keep_cell b2 x1
    replace x2 := keep_cell b2 x2
    replace f0 := ((bcell b2).2 w.heap.size 0 hz).trans f0
    replace f1 := ((bcell b2).2 w.heap.size 1 hz).trans f1
    replace f2 := ((bcell b2).2 w.heap.size 2 hz).trans f2
    replace hz := lt_of_cell x0
    replace bE := bE.trans (b2.mono bE.size)
    clear b2 BI
    go_wp2_with fail
    refine (UI _ (h.below bE) (hb.below bE)).mono ?_
    rintro e w3 ⟨a2, m2, c2, r2, p2, q2, rfl, U2, b3⟩
    replace x0 := keep_cell b3 x0
    replace x1 := keep_cell b3 x1
    replace x2 := keep_cell b3 x2
    replace f0 := ((bcell b3).2 w.heap.size 0 hz).trans f0
    replace f1 := ((bcell b3).2 w.heap.size 1 hz).trans f1
    replace f2 := ((bcell b3).2 w.heap.size 2 hz).trans f2
    have bF := bE.trans (b3.mono bE.size)
    go_wp2
    refine bodyPost_ret (v := .agg #[.int .i64 st.1, .slice a2 m2 c2, .slice r2 p2 q2]) (by simp [results, Try.results23, go_sem, x0, x1, x2]) rfl ⟨a2, m2, c2, r2, p2, q2, rfl, ?_, ((bF.setCell (p := ⟨w.heap.size, 0, none⟩) (Nat.le_refl _) _).setCell (p := ⟨w.heap.size, 1, none⟩) (Nat.le_refl _) _).setCell (p := ⟨w.heap.size, 2, none⟩) (Nat.le_refl _) _⟩
    exact (((U2.low hz _).low hz _).low hz _).base (Nat.le_of_lt hz)
end Go.Proofs.Ythfanfnbjldddaa


/- Leaves that are merged, evened and packed: plain. -/
namespace Go.Proofs.Ythfanfnbjldddaa.Ch
/-- What a question for two leaves is told. -/
def pairAsked (ls : List (List Row)) (at_ : Int) : Int := if leavesFault ls != 0 then leavesFault ls else if inB at_ 0 ((ls.length : Int) - 2) then 0 else 3
/-- The rows of the leaf at k and of the one behind it. -/
def pairAt (ls : List (List Row)) (k : Nat) : List Row := ls.getD k [] ++ ls.getD (k + 1) []
/-- Leaves in place of two. -/
def twoIn (ls : List (List Row)) (k : Nat) (mid : List (List Row)) : List (List Row) := ls.take k ++ mid ++ ls.drop (k + 2)
def halfOf (l : List Row) : Nat := (l.length + 1) / 2
def evens (l : List Row) : List (List Row) := [l.take (halfOf l), l.drop (halfOf l)]
/-- What MergeLeaves answers. -/
def mergeR (ls : List (List Row)) (at_ : Int) : Int × List (List Row) :=
  if pairAsked ls at_ != 0 then (pairAsked ls at_, []) else if 4 < (pairAt ls at_.toNat).length then (2, []) else (0, twoIn ls at_.toNat [pairAt ls at_.toNat])
/-- What EvenLeaves answers. -/
def evenR (ls : List (List Row)) (at_ : Int) : Int × List (List Row) :=
  if pairAsked ls at_ != 0 then (pairAsked ls at_, []) else (0, twoIn ls at_.toNat (evens (pairAt ls at_.toNat)))
/-- The i-th piece of four. -/
def pieceOf (F : List Row) (i : Nat) : List Row := (F.drop (i * 4)).take 4
def piecesN (F : List Row) : Nat := (F.length + 3) / 4
def pack (F : List Row) : List (List Row) := (List.range (piecesN F)).map (pieceOf F)
/-- What PackLeaves answers. -/
def packR (ls : List (List Row)) : Int × List (List Row) := if leavesFault ls != 0 then (leavesFault ls, []) else (0, pack ls.flatten)
/-- What FillOf answers. -/
def fillR (ls : List (List Row)) : Int × Int :=
  if leavesFault ls != 0 then (leavesFault ls, 0) else if ls.length = 0 then (4, 0) else (0, (ls.flatten.length : Int) * 100 / (4 * (ls.length : Int)))
def Row.same (a b : Row) : Bool := a.k == b.k && (a.v == b.v && a.g == b.g)
/-- Rows one by one the same. -/
def sameL : List Row → List Row → Bool
  | [], [] => true
  | a :: l, b :: m => a.same b && sameL l m
  | [], _ :: _ => false
  | _ :: _, [] => false
theorem Row.same_self (a : Row) : a.same a = true := by simp [Row.same]
theorem sameL_self (l : List Row) : sameL l l = true := by
  induction l with
  | nil => rfl
  | cons a l ih => simp [sameL, ih, Row.same_self]
theorem sameL_len (l m : List Row) (h : l.length ≠ m.length) : sameL l m = false := by
  induction l generalizing m with
  | nil => cases m with
    | nil => simp at h
    | cons b m => rfl
  | cons a l ih => cases m with
    | nil => rfl
    | cons b m => simp [sameL, ih m (by simpa using h)]
theorem sameL_at (l m : List Row) (k : Nat) (h : k < l.length) (h' : k < m.length) : sameL (l.drop k) (m.drop k) = ((l.getD k Row.zero).same (m.getD k Row.zero) && sameL (l.drop (k + 1)) (m.drop (k + 1))) := by
  rw [List.drop_eq_getElem_cons h, List.drop_eq_getElem_cons h', sameL]
  simp [List.getD, h, h']
/-- What SameRows answers. -/
def sameR (ps qs : List (List Row)) : Bool := leavesFault ps == 0 && (leavesFault qs == 0 && sameL ps.flatten qs.flatten)
theorem sameR_yes {ps qs : List (List Row)} (h : leavesFault ps = 0) (h' : leavesFault qs = 0) (hf : ps.flatten = qs.flatten) : sameR ps qs = true := by
  rw [sameR, h, h', hf, sameL_self]; rfl
theorem sameR_no {ps qs : List (List Row)} (h : (leavesFault ps != 0) = true) : sameR ps qs = false := by
  have h : leavesFault ps ≠ 0 := by simpa using h
  simp [sameR, h]
theorem sameR_no2 {ps qs : List (List Row)} (h : (leavesFault qs != 0) = true) : sameR ps qs = false := by
  have h : leavesFault qs ≠ 0 := by simpa using h
  simp [sameR, h]
theorem sameR_ok {ps qs : List (List Row)} (h : leavesFault ps = 0) (h' : leavesFault qs = 0) : sameR ps qs = sameL ps.flatten qs.flatten := by
  rw [sameR, h, h']; rfl

theorem two_flat (ls : List (List Row)) (k : Nat) (mid : List (List Row)) (hk : k + 1 < ls.length) (hm : mid.flatten = pairAt ls k) : (twoIn ls k mid).flatten = ls.flatten := by
  have e : ls = ls.take k ++ [ls.getD k [], ls.getD (k + 1) []] ++ ls.drop (k + 2) := by
    rw [List.append_assoc, show [ls.getD k [], ls.getD (k + 1) []] ++ ls.drop (k + 2) = ls.getD k [] :: ls.getD (k + 1) [] :: ls.drop (k + 2) from rfl, ← lv_drop ls (k + 1) hk, ← lv_drop ls k (by omega), List.take_append_drop]
  unfold twoIn
  conv => rhs; rw [e]
  simp only [List.flatten_append, hm, pairAt, List.flatten_cons, List.flatten_nil, List.append_nil]
theorem two_len (ls : List (List Row)) (k : Nat) (mid : List (List Row)) (hk : k + 1 < ls.length) : (twoIn ls k mid).length + 2 = ls.length + mid.length := by
  simp [twoIn, List.length_take, List.length_drop]; omega
theorem evens_flat (l : List Row) : (evens l).flatten = l := by simp [evens]
theorem pieces_take (F : List Row) (k : Nat) : ((List.range k).map (pieceOf F)).flatten = F.take (k * 4) := by
  induction k with
  | zero => simp
  | succ k ih =>
    rw [List.range_succ, List.map_append, List.flatten_append, ih]
    simp only [List.map_cons, List.map_nil, List.flatten_cons, List.flatten_nil, List.append_nil, pieceOf]
    rw [show (k + 1) * 4 = k * 4 + 4 by omega, List.take_add]
theorem pack_flat (F : List Row) : (pack F).flatten = F := by
  unfold pack
  rw [pieces_take]
  exact List.take_of_length_le (by unfold piecesN; omega)
theorem pack_len (F : List Row) : (pack F).length = piecesN F := by simp [pack]
theorem piece_len (F : List Row) (i : Nat) : (pieceOf F i).length = min 4 (F.length - i * 4) := by simp [pieceOf]
theorem flat_up (ls : List (List Row)) (h : ∀ l ∈ ls, l.length ≤ 4) : ls.flatten.length ≤ 4 * ls.length := by
  induction ls with
  | nil => simp
  | cons l ls ih =>
    have h1 := ih fun m hm => h m (List.mem_cons_of_mem _ hm)
    have h2 := h l List.mem_cons_self
    simp only [List.flatten_cons, List.length_append, List.length_cons]
    omega
theorem flat_lo (ls : List (List Row)) (h : ∀ l ∈ ls, l.length ≠ 0) : ls.length ≤ ls.flatten.length := by
  induction ls with
  | nil => simp
  | cons l ls ih =>
    have h1 := ih fun m hm => h m (List.mem_cons_of_mem _ hm)
    have h2 := h l List.mem_cons_self
    simp only [List.flatten_cons, List.length_append, List.length_cons]
    omega
/-- Packed leaves are right, and no more of them than there were. -/
theorem pack_good {ls : List (List Row)} (h : leavesFault ls = 0) : leavesFault (pack ls.flatten) = 0 ∧ (pack ls.flatten).length ≤ ls.length := by
  obtain ⟨h1, h2, h3, h4⟩ := (good_iff ls).1 h
  have hu := flat_up ls fun l hl => (h2 l hl).2
  have hn : (pack ls.flatten).length ≤ ls.length := by rw [pack_len]; unfold piecesN; omega
  refine ⟨(good_iff _).2 ⟨by omega, ?_, ?_, ?_⟩, hn⟩
  · intro l hl
    obtain ⟨i, hi, rfl⟩ := List.mem_map.1 hl
    have hi := List.mem_range.1 hi
    unfold piecesN at hi
    rw [piece_len]
    omega
  · rw [pack_flat]; exact h3
  · rw [pack_flat]; exact h4
theorem two_good {ls : List (List Row)} (h : leavesFault ls = 0) {k : Nat} (hk : k + 1 < ls.length) {mid : List (List Row)} (hm : mid.flatten = pairAt ls k) (hl : mid.length ≤ 2) (hg : ∀ l ∈ mid, l.length ≠ 0 ∧ l.length ≤ 4) : leavesFault (twoIn ls k mid) = 0 := by
  obtain ⟨h1, h2, h3, h4⟩ := (good_iff ls).1 h
  have hn := two_len ls k mid hk
  refine (good_iff _).2 ⟨by omega, ?_, ?_, ?_⟩
  · intro l hl
    unfold twoIn at hl
    rcases List.mem_append.1 hl with hl | hl
    · rcases List.mem_append.1 hl with hl | hl
      · exact h2 l (List.mem_of_mem_take hl)
      · exact hg l hl
    · exact h2 l (List.mem_of_mem_drop hl)
  · rw [two_flat ls k mid hk hm]; exact h3
  · rw [two_flat ls k mid hk hm]; exact h4
theorem getD_mem (ls : List (List Row)) (k : Nat) (h : k < ls.length) : ls.getD k [] ∈ ls := by
  simp [List.getD, List.getElem?_eq_getElem h]
theorem pair_pos {ls : List (List Row)} (h : leavesFault ls = 0) {k : Nat} (hk : k + 1 < ls.length) : 2 ≤ (pairAt ls k).length ∧ (pairAt ls k).length ≤ 8 := by
  obtain ⟨h1, h2, h3, h4⟩ := (good_iff ls).1 h
  have a := h2 _ (getD_mem ls k (by omega))
  have b := h2 _ (getD_mem ls (k + 1) hk)
  simp only [pairAt, List.length_append]
  omega
theorem merge_good {ls : List (List Row)} (h : leavesFault ls = 0) {k : Nat} (hk : k + 1 < ls.length) (h4 : ¬ 4 < (pairAt ls k).length) : leavesFault (twoIn ls k [pairAt ls k]) = 0 := by
  have := pair_pos h hk
  refine two_good h hk (by simp) (by simp) fun l hl => ?_
  rw [List.mem_singleton] at hl
  subst hl
  omega
theorem even_good {ls : List (List Row)} (h : leavesFault ls = 0) {k : Nat} (hk : k + 1 < ls.length) : leavesFault (twoIn ls k (evens (pairAt ls k))) = 0 := by
  have := pair_pos h hk
  refine two_good h hk (evens_flat _) (by simp [evens]) fun l hl => ?_
  simp only [evens, List.mem_cons, List.not_mem_nil, or_false] at hl
  rcases hl with rfl | rfl
  · rw [List.length_take]; unfold halfOf; omega
  · rw [List.length_drop]; unfold halfOf; omega
theorem asked_ok {ls : List (List Row)} {at_ : Int} (h : pairAsked ls at_ = 0) : leavesFault ls = 0 ∧ ∃ k : Nat, at_ = (k : Int) ∧ k + 1 < ls.length := by
  unfold pairAsked at h
  split at h
  · rename_i hc
    simp [h] at hc
  · rename_i hc
    split at h
    · rename_i hb
      simp [inB] at hb
      exact ⟨by simpa using hc, at_.toNat, by omega, by omega⟩
    · simp at h
theorem pack_pack (F : List Row) : pack (pack F).flatten = pack F := by rw [pack_flat]
theorem fillR_ok {ls : List (List Row)} (h : leavesFault ls = 0) : fillR ls = if ls.length = 0 then (4, 0) else (0, (ls.flatten.length : Int) * 100 / (4 * (ls.length : Int))) := by
  rw [fillR, h]; rfl
theorem fillR_no {ls : List (List Row)} (h : (leavesFault ls != 0) = true) : fillR ls = (leavesFault ls, 0) := by rw [fillR, if_pos h]
theorem packR_ok {ls : List (List Row)} (h : leavesFault ls = 0) : packR ls = (0, pack ls.flatten) := by rw [packR, h]; rfl
theorem packR_no {ls : List (List Row)} (h : (leavesFault ls != 0) = true) : packR ls = (leavesFault ls, []) := by rw [packR, if_pos h]
theorem mergeR_no {ls : List (List Row)} {at_ : Int} (h : (pairAsked ls at_ != 0) = true) : mergeR ls at_ = (pairAsked ls at_, []) := by rw [mergeR, if_pos h]
theorem evenR_no {ls : List (List Row)} {at_ : Int} (h : (pairAsked ls at_ != 0) = true) : evenR ls at_ = (pairAsked ls at_, []) := by rw [evenR, if_pos h]
theorem mergeR_ok {ls : List (List Row)} {k : Nat} (h : pairAsked ls (k : Int) = 0) : mergeR ls (k : Int) = if 4 < (pairAt ls k).length then (2, []) else (0, twoIn ls k [pairAt ls k]) := by rw [mergeR, h]; rfl
theorem evenR_ok {ls : List (List Row)} {k : Nat} (h : pairAsked ls (k : Int) = 0) : evenR ls (k : Int) = (0, twoIn ls k (evens (pairAt ls k))) := by rw [evenR, h]; rfl
theorem fill_more {ls : List (List Row)} (h : leavesFault ls = 0) : (fillR (pack ls.flatten)).1 = (fillR ls).1 ∧ (fillR ls).2 ≤ (fillR (pack ls.flatten)).2 := by
  obtain ⟨hp, hn⟩ := pack_good h
  obtain ⟨h1, h2, h3, h4⟩ := (good_iff ls).1 h
  have hlo := flat_lo ls fun l hl => (h2 l hl).1
  rw [fillR_ok hp, fillR_ok h, pack_flat]
  by_cases h0 : ls.length = 0
  · have : (pack ls.flatten).length = 0 := by omega
    rw [if_pos this, if_pos h0]
    exact ⟨rfl, Int.le_refl _⟩
  · have h0' : (pack ls.flatten).length ≠ 0 := by rw [pack_len]; unfold piecesN; omega
    rw [if_neg h0', if_neg h0]
    refine ⟨rfl, ?_⟩
    show (ls.flatten.length : Int) * 100 / (4 * (ls.length : Int)) ≤ (ls.flatten.length : Int) * 100 / (4 * ((pack ls.flatten).length : Int))
    generalize ls.flatten.length = F at *
    generalize (pack ls.flatten).length = P at *
    generalize ls.length = L at *
    have e1 : (F : Int) * 100 / (4 * (L : Int)) = ((F * 100 / (4 * L) : Nat) : Int) := by push_cast; rfl
    have e2 : (F : Int) * 100 / (4 * (P : Int)) = ((F * 100 / (4 * P) : Nat) : Int) := by push_cast; rfl
    rw [e1, e2]
    exact Int.ofNat_le.2 (Nat.div_le_div_left (by omega) (by omega))
end Go.Proofs.Ythfanfnbjldddaa.Ch


/- FillOf of the model and of the program. -/
namespace Go.Proofs.Ythfanfnbjldddaa
open Go.RowKit

theorem own_rows_len {w : World} {B m : Nat} {v : Value} {F : List Ch.Row} (h : w.ownsRow B 105 3 v m (rcells F)) : Hid (m = F.length) := by
  have h1 := h.1
  rw [rcells_len] at h1
  show _ = _
  omega
theorem quo_is (F n : Nat) (hF : F ≤ 1048576) : ∃ Q : Nat, Q ≤ 104857600 ∧ ((F : Int) * 100).tdiv (4 * (n : Int)) = (Q : Int) ∧ Hid ((F : Int) * 100 / (4 * (n : Int)) = (Q : Int)) := by
  have e : (F : Int) * 100 / (4 * (n : Int)) = ((F * 100 / (4 * n) : Nat) : Int) := by push_cast; rfl
  refine ⟨F * 100 / (4 * n), Nat.le_trans (Nat.div_le_self _ _) (by omega), ?_, e⟩
  rw [Int.tdiv_eq_ediv_of_nonneg (by omega), e]

/-- RowsOf of right leaves. -/
theorem implRowsOf_ok (a : Option Addr) (n cap : Nat) (ls : List (List Ch.Row)) (w : World) (h : LvAt w a n ls) (hs : Ch.lvSize ls ≤ 1048576) (h0 : Ch.leavesFault ls = 0) (m : Nat) (hm : Hid (ls.flatten.length = m)) :
    Calls Try.prog 20 #[.slice a n cap] w fun e w' => ∃ a' c', e = .returned (.agg #[.int .i64 0, .slice a' m c']) ∧ w'.ownsRow w.heap.size 105 3 (.slice a' m c') m (rcells ls.flatten) ∧ Below w.heap.size w w' := by
  have RI := implRowsOf_any a n cap ls w h hs
  rw [Ch.rowsR_ok h0] at RI
  refine RI.mono ?_
  rintro e w2 ⟨a', m', c', rfl, hm', own, b2⟩
  have HM := (own_rows_len own).out
  have hm := hm.out
  subst HM hm
  exact ⟨a', c', rfl, own, b2⟩
/-- The model's list of all rows, its length named. -/
theorem specRows_m (a : Option Addr) (n cap : Nat) (ls : List (List Ch.Row)) (w : World) (h : LvAt w a n ls) (hs : Ch.lvSize ls ≤ 1048576) (hg : ∀ k, k < n → (ls.getD k []).length ≠ 0) (m : Nat) (hm : Hid (ls.flatten.length = m)) :
    Calls Try.prog 80 #[.slice a n cap] w fun e w' => ∃ a' c', e = .returned (.slice a' m c') ∧ w'.ownsRow w.heap.size 105 3 (.slice a' m c') m (rcells ls.flatten) ∧ Below w.heap.size w w' := by
  have hm := hm.out
  subst hm
  exact specRows_any a n cap ls w h hs hg

end Go.Proofs.Ythfanfnbjldddaa


/- SameRows of the model and of the program. -/
namespace Go.Proofs.Ythfanfnbjldddaa
open Go.RowKit

theorem bel_drewN {B : Nat} {w w' : World} (h : Below B w w') (q : Nat) : Below B w (w'.drewN q) := ⟨h.os, h.tape, h.output, h.size, h.block⟩
/-- Two rows compared. -/
theorem equalRow (k v : Int) (g : Bool) (k' v' : Int) (g' : Bool) (w : World) :
    (Op.equalIn 10000 105 (.agg #[.int .i64 k, .int .i64 v, .bool g]) (.agg #[.int .i64 k', .int .i64 v', .bool g'])).run Try.prog w = .ok (k == k' && (v == v' && g == g')) w := by
  have hS : Try.prog.underlying 105 = some (.struct (Try.prog.fieldsOf 105)) := by kernel_rfl
  have hp : Try.prog.stoodInHeld 105 = false := by kernel_rfl
  have u2 := Try.underlying2
  have a2 := Try.isAgg2
  have z2 := Try.sizeOf2
  have u4 := Try.underlying4
  have a4 := Try.isAgg4
  have z4 := Try.sizeOf4
  rw [show (10000 : Nat) = 9999 + 1 from rfl, run_equalIn_agg w 9999 105 _ _ hS hp]
  simp only [Program.fieldsOf, Try.underlying105]
  go_simp
  cases g <;> cases g' <;> by_cases h1 : k = k' <;> by_cases h2 : v = v' <;> simp [h1, h2]
theorem neqRow (k v : Int) (g : Bool) (k' v' : Int) (g' : Bool) (w : World) :
    (binOp .neq 105 (.agg #[.int .i64 k, .int .i64 v, .bool g]) (.agg #[.int .i64 k', .int .i64 v', .bool g'])).run Try.prog w = .ok (.bool (!(k == k' && (v == v' && g == g')))) w := by
  rw [run_neq_struct, equalRow]
  rfl

theorem rowsR_mem (ls : List (List Ch.Row)) : ((Ch.rowsR ls).1 != 0) = (Ch.leavesFault ls != 0) := by
  unfold Ch.rowsR
  split
  · rename_i h; rw [h]
  · rfl

end Go.Proofs.Ythfanfnbjldddaa


/- What a put tells of all that the law FnLeaves asks; rows compared. -/
namespace Go.Proofs.Ythfanfnbjldddaa
open Go.RowKit

theorem Ch.asked_in {ls : List (List Ch.Row)} (hg : Ch.leavesFault ls = 0) {key : Int} (h0 : 0 ≤ key) (h1 : key ≤ 99) : Ch.asked ls key = 0 := by
  unfold Ch.asked
  rw [hg]
  have : Ch.inB key 0 99 = true := by simp [Ch.inB]; omega
  rw [this]; rfl
theorem Ch.fault_key {r : Ch.Row} (h : r.fault = 0) : 0 ≤ r.k ∧ r.k ≤ 99 := by
  unfold Ch.Row.fault Ch.rowFault at h
  cases hb : Ch.inB r.k 0 99
  · rw [hb] at h; simp at h
  · exact inB_key hb
/-- What a row that was put is told: it is found, dropped, the others stay, and it lies in its leaf. -/
theorem Ch.put_tells {ls rl : List (List Ch.Row)} {r : Ch.Row} (h : Ch.putR ls r = (0, rl)) :
    Ch.leavesFault ls = 0 ∧ Ch.leavesFault rl = 0 ∧ Ch.findRR rl r.k = (0, [r]) ∧ (∃ dl, Ch.dropR rl r.k = (0, dl) ∧ Ch.leavesFault dl = 0 ∧ Ch.findRR dl r.k = (4, [])) ∧
    (∀ k : Int, 0 ≤ k → k ≤ 99 → k ≠ r.k → (Ch.findRR ls k).2 = (Ch.findRR rl k).2) ∧
    (∃ i j : Nat, i < rl.length ∧ Ch.leafFor rl r.k = (0, (i : Int)) ∧ j < (rl.getD i []).length ∧ (rl.getD i []).getD j Ch.Row.zero = r) := by
  have hl : Ch.leavesFault ls = 0 := by
    unfold Ch.putR at h
    by_cases hc : (Ch.leavesFault ls != 0) = true
    · rw [if_pos hc] at h
      simp at hc
      exact absurd (Prod.mk.inj h).1 hc
    · simpa using hc
  have hr : r.fault = 0 := by
    unfold Ch.putR at h
    rw [hl] at h
    by_cases hc : (r.fault != 0) = true
    · rw [if_neg (by simp), if_pos hc] at h
      simp at hc
      exact absurd (Prod.mk.inj h).1 hc
    · simpa using hc
  have hp : (Ch.put ls r).length ≤ 60 ∧ rl = Ch.put ls r := by
    unfold Ch.putR at h
    rw [hl, hr] at h
    by_cases hc : 60 < (Ch.put ls r).length
    · rw [if_neg (by simp), if_neg (by simp), if_pos hc] at h
      exact absurd (Prod.mk.inj h).1 (by omega)
    · rw [if_neg (by simp), if_neg (by simp), if_neg hc] at h
      exact ⟨by omega, (Prod.mk.inj h).2.symm⟩
  obtain ⟨h60, rfl⟩ := hp
  have hg := Ch.put_good hl hr h60
  obtain ⟨k0, k1⟩ := Ch.fault_key hr
  have ha := Ch.asked_in hg k0 k1
  have hf := Ch.put_find (r := r) hl
  have hd := Ch.drop_good hg r.k
  have hda := Ch.asked_in hd k0 k1
  obtain ⟨i, j, hi, hj, hrow, _⟩ := Ch.find_some hf
  refine ⟨hl, hg, Ch.findRR_some (by rw [ha]; rfl) hf, ⟨_, Ch.dropR_some (by rw [ha]; rfl) hf, hd, Ch.findRR_none (by rw [hda]; rfl) (Ch.drop_find _ _)⟩, fun k h0 h1 hne => ?_, i, j, hi, ?_, hj, hrow⟩
  · have e1 := Ch.asked_in hl h0 h1
    have e2 := Ch.asked_in hg h0 h1
    have e3 := Ch.put_find_other (r := r) hl hne
    cases hq : Ch.findR ls k with
    | none => rw [Ch.findRR_none (by rw [e1]; rfl) hq, Ch.findRR_none (by rw [e2]; rfl) (e3.trans hq)]
    | some x => rw [Ch.findRR_some (by rw [e1]; rfl) hq, Ch.findRR_some (by rw [e2]; rfl) (e3.trans hq)]
  · rw [leafFor_ok (by rw [ha]; rfl) (by omega), Ch.forAt_found hg hi hj (by unfold Ch.keyAt; rw [hrow])]

set_option maxHeartbeats 800000 in
theorem lwRows_any (a a' : Option Addr) (n cap n' cap' : Nat) (rs qs : List Ch.Row) (w : World) (h : CellsAt w a (n * 3) (rcells rs)) (h' : CellsAt w a' (n' * 3) (rcells qs)) (hn : n ≤ 1048576) (hn' : n' ≤ 1048576) :
    Calls Try.prog 21 #[.slice a n cap, .slice a' n' cap'] w fun e w' => e = .returned (.bool (Ch.sameL rs qs)) ∧ Below w.heap.size w w' := by
  have HL := h.rlen
  have HL' := h'.rlen
  by_cases hnn : n = n'
  · subst hnn
    have hne : ((n : Int) != n) = false := by simp
    go_enter Try.func21, Try.ntmps21
    go_wp2
    go_loopw [5] (fun i wr => ∃ k : Nat, k ≤ n ∧ i = .int .i64 k ∧ Hid (Ch.sameL rs qs = Ch.sameL (rs.drop k) (qs.drop k)) ∧ Below w.heap.size w wr) (fun i _ => n - (intOf i).toNat)
    case atStart => exact ⟨0, Nat.zero_le _, rfl, rfl, Below.refl _ _⟩
    case round =>
      obtain ⟨k, hk, rfl, HS, hB⟩ := hrel
      by_cases hlt : k < n
      · have HA := hid (Ch.sameL_at rs qs k (by have := HL.out; omega) (by have := HL'.out; omega))
        obtain ⟨b, off, rfl, hc0, hc1, hc2⟩ := (h.below hB).row hlt
        obtain ⟨b', off', rfl, hd0, hd1, hd2⟩ := (h'.below hB).row hlt
        generalize rs.getD k Ch.Row.zero = r at *
        generalize qs.getD k Ch.Row.zero = q at *
        obtain ⟨rk, rv, rg⟩ := r
        obtain ⟨qk, qv, qg⟩ := q
        simp only at hc0 hc1 hc2 hd0 hd1 hd2
        have hneq := fun W => neqRow rk rv rg qk qv qg W
        have HE : Hid (Ch.Row.same ⟨rk, rv, rg⟩ ⟨qk, qv, qg⟩ = (rk == qk && (rv == qv && rg == qg))) := rfl
        generalize (rk == qk && (rv == qv && rg == qg)) = same at *
        cases same
        · simp only [Bool.not_false] at hneq
          go_wp2
          go_quiet (fail)
          go_wp2
          go_ret
          exact ⟨by rw [HS.out, HA.out, HE.out]; rfl, bel_drewN hB _⟩
        · simp only [Bool.not_true] at hneq
          go_wp2
          go_quiet (fail)
          go_wp2
          go_roundw
          case rel => exact ⟨k + 1, by omega, by go_num, (by show _ = _; rw [HS.out, HA.out, HE.out]; rfl), bel_drewN hB _⟩
          case measure => simp [intOf]; omega
      · obtain rfl : k = n := by omega
        go_wp2
        go_ret
        refine ⟨?_, hB⟩
        rw [HS.out, List.drop_of_length_le (by have := HL.out; omega), List.drop_of_length_le (by have := HL'.out; omega)]
        rfl
  · have hne : ((n : Int) != (n' : Int)) = true := by simp; omega
    have hne2 : ¬ (n : Int) = (n' : Int) := by omega
    go_enter Try.func21, Try.ntmps21
    go_wp2
    go_ret
    exact ⟨by rw [Ch.sameL_len _ _ (by have := HL.out; have := HL'.out; omega)]; rfl, Below.refl _ _⟩
end Go.Proofs.Ythfanfnbjldddaa


/- The law FnSets. -/
namespace Go.Proofs.Ythfanfnbjldddaa
open Go.RowKit

theorem fieldUr (c : Int) (a : Option Addr) (m k : Nat) (r : Option Addr) (p q : Nat) (W : World) : (Instr.field 29 (.agg #[.int .i64 c, .slice a m k, .slice r p q]) 0).run Try.prog W = .ok (.int .i64 c) W := by kernel_rfl
theorem fieldRs1 (c : Int) (a : Option Addr) (m k : Nat) (W : World) : (Instr.field 44 (.agg #[.int .i64 c, .slice a m k]) 1).run Try.prog W = .ok (.slice a m k) W := by kernel_rfl
theorem Ch.sets_walk {ls ls' : List (List Ch.Row)} {tx key v : Int} {h : Bool} {rs : List Ch.Rec} (hr : Ch.setR ls tx key h v = (0, ls', rs)) :
    ∃ bh bv ls'' h3 o3, Ch.leavesFault ls = 0 ∧ Ch.leavesFault ls' = 0 ∧ Ch.leavesFault ls'' = 0 ∧ rs = [⟨2, tx, key, bh, bv, h, v⟩] ∧ Ch.bfOf ls key = ⟨key, bh, bv⟩ ∧ Ch.valR ls' key = (if h then (0, v) else (4, 0)) ∧
      Ch.undoR ls' tx [⟨key, bh, bv⟩] = (0, ls'', [⟨3, tx, key, h3, o3, bh, bv⟩]) ∧ Ch.noGhost ls.flatten = Ch.noGhost ls''.flatten := by
  obtain ⟨hg, _, hk, _, hg', hrs, _, hh, ls'', hu, hg'', hs⟩ := Ch.sets_tell hr
  have hbk := Ch.bf_key key (Ch.has ls key)
  refine ⟨(Ch.bf key (Ch.has ls key)).h, (Ch.bf key (Ch.has ls key)).v, ls'', (Ch.bf key (Ch.has ls' key)).h, (Ch.bf key (Ch.has ls' key)).v, hg, hg', hg'', hrs, ?_, ?_, ?_, Ch.noGhost_same hg hg'' fun k => (hs k).symm⟩
  · rw [Ch.bfOf_ok (by rw [Ch.asked_of hg hk]; rfl)]
    generalize Ch.bf key (Ch.has ls key) = b at *
    cases b
    simp at hbk ⊢
    exact hbk
  · have hx := hh key
    rw [if_pos rfl] at hx
    cases h
    · exact Ch.valR_none (by rw [Ch.asked_of hg' hk]; rfl) hx
    · exact Ch.valR_some (by rw [Ch.asked_of hg' hk]; rfl) hx
  · have e : (⟨key, (Ch.bf key (Ch.has ls key)).h, (Ch.bf key (Ch.has ls key)).v⟩ : Ch.Bf) = Ch.bf key (Ch.has ls key) := by
      generalize Ch.bf key (Ch.has ls key) = b at *
      cases b
      simp at hbk ⊢
      exact hbk.symm
    rw [e]
    exact hu
theorem new_befA (w : World) (k : Int) (g : Bool) (v : Int) (t : TypeId) : CellsAt (w.alloc (.cells #[.int .i64 k, .bool g, .int .i64 v] t)) (some ⟨w.heap.size, 0, none⟩) (1 * 3) (bfcells [⟨k, g, v⟩]) := by
  refine ⟨rfl, fun _ => ⟨_, _, rfl, fun i hi => ?_⟩⟩
  rw [Nat.zero_add]
  have := cell_of_row (w.alloc (.cells #[.int .i64 k, .bool g, .int .i64 v] t)) _ i _ _ _ (heap_alloc_new w _)
  rw [this]
  simp [bfcells]
theorem rec_one {w : World} {r : Option Addr} {x : Ch.Rec} (h : CellsAt w r (1 * 7) (rc7 [x])) : ∃ b o, r = some ⟨b, o, none⟩ ∧ w.cell? ⟨b, o, none⟩ = some (.int .i64 x.kd) ∧ w.cell? ⟨b, o + 3, none⟩ = some (.bool x.hd) ∧ w.cell? ⟨b, o + 4, none⟩ = some (.int .i64 x.ol) := by
  obtain ⟨b, o, ha, hc⟩ := h.2 (by omega)
  refine ⟨b, o, ha, ?_, ?_, ?_⟩
  · have := hc 0 (by omega); simpa [rc7, c7] using this
  · have := hc 3 (by omega); simpa [rc7, c7] using this
  · have := hc 4 (by omega); simpa [rc7, c7] using this
theorem undo_box {W : World} {c : Value} {l r : Value} {t : TypeId} {g : Nat} (h : W.heap[g]? = some (.cells #[c, l, r] t (0, 0))) : W.cell? ⟨g, 0, none⟩ = some c ∧ W.cell? ⟨g, 1, none⟩ = some l ∧ W.cell? ⟨g, 2, none⟩ = some r :=
  ⟨cell_of_row _ _ _ _ _ _ h, cell_of_row _ _ _ _ _ _ h, cell_of_row _ _ _ _ _ _ h⟩
theorem two_of {W : World} {c l : Value} {t : TypeId} {g : Nat} (h : W.heap[g]? = some (.cells #[c, l] t (0, 0))) : W.cell? ⟨g, 0, none⟩ = some c ∧ W.cell? ⟨g, 1, none⟩ = some l :=
  ⟨cell_of_row _ _ _ _ _ _ h, cell_of_row _ _ _ _ _ _ h⟩

set_option linter.unusedSimpArgs false in
set_option maxRecDepth 100000 in
set_option maxHeartbeats 16000000 in
theorem lawSets_any (a : Option Addr) (n cap : Nat) (zs : List Int) (w : World) (h : CellsAt w a n (bts zs)) (hb : IsB zs) :
    Calls Try.prog 3 #[.slice a n cap] w fun e w' => e = .returned (.bool true) ∧ Below w.heap.size w w' := by
  by_cases hbig : 1048576 < n
  · have hd : decide ((1048576 : Int) < (n : Int)) = true := by simp; omega
    have BI := fun W => big_any a n cap W
    rw [hd] at BI
    go_enter Try.func3, Try.ntmps3
    go_wp2_with fail
    refine (BI _).mono ?_
    rintro e w' ⟨rfl, rfl⟩
    go_wp2
    go_ret
    exact ⟨rfl, Below.refl _ _⟩
  have hn : n ≤ 1048576 := by omega
  have hd : decide ((1048576 : Int) < (n : Int)) = false := by simp; omega
  have BI := fun W => big_any a n cap W
  rw [hd] at BI
  clear hbig
  go_enter Try.func3, Try.ntmps3
  go_wp2_with fail
  refine (BI _).mono ?_
  rintro e w' ⟨rfl, hw'⟩
  obtain rfl := hw'.symm
  go_wp2_with fail
  refine (drawSet_any a n cap zs _ h hb hn).mono ?_
  rintro e w1 ⟨ls, a1, n1, c1, tx, key, has, v, hbe, rfl, o1, b1⟩
  have hs : Ch.lvSize ls ≤ 1048576 := by have := hbe.1; omega
  have hsa := small_at hs
  have II := implSetValue_any a1 n1 c1 tx key has v ls w1 (o1.at hsa) hs
  have SS : ∀ W, OwnLv W w.heap.size (.slice a1 n1 c1) n1 ls → Calls Try.prog 14 #[.slice a1 n1 c1, .int .i64 tx, .int .i64 key, .bool has, .int .i64 v] W fun e W' => ∃ a' m c' r p q, e = .returned (.agg #[.int .i64 (Ch.setR ls tx key has v).1, .slice a' m c', .slice r p q]) ∧ Below W.heap.size W W' := fun W hW => (specSetValue_any a1 n1 c1 tx key has v ls W (OwnLv.at hW hsa) hs).mono (by rintro e W' ⟨a', m, c', r, p, q, h1, _, h4⟩; exact ⟨a', m, c', r, p, q, h1, h4⟩)
  have BO := fun (W : World) (hW : OwnLv W w.heap.size (.slice a1 n1 c1) n1 ls) => implBeforeOf_any a1 n1 c1 key ls W (OwnLv.at hW hsa) hs
  have hsm := (Ch.setR_small (ls := ls) (tx := tx) (key := key) (v := v) (has := has)).1
  obtain ⟨c, ls', rs, hR⟩ : ∃ c ls' rs, Hid (Ch.setR ls tx key has v = (c, ls', rs)) := ⟨_, _, _, rfl⟩
  rw [hR.out] at II SS hsm
  simp only at II SS hsm
  clear hbe
  go_wp2_with fail
  refine II.mono ?_
  rintro e w2 ⟨a2, m2, c2, r2, p2, q2, rfl, o2, b2⟩
  have bE := b1.trans (b2.mono b1.size)
  have o1 := o1.below b2
  have bA2 : ∀ o, Below w2.heap.size w2 (w2.alloc o) := fun o => (Below.refl _ _).alloc (Nat.le_refl _) _
  clear II b1 b2
  by_cases hc0 : c = 0
  rotate_left
  · have hc : (c != 0) = true := by simpa using hc0
    have hcc : (c == c) = true := by simp
    clear hc0 hR
    go_wp2
    refine wp_region_noPanic ?_
    refine wp_region_held_drew (S := fun W' => W'.cell? ⟨w2.heap.size, 0, none⟩ = some (.int .i64 c) ∧ Below w2.heap.size w2 W') (by kernel_rfl) (⟨by simp [go_sem], (bA2 _).drew⟩) (fun hH => ?_)
    refine hTake (i := 0) (v := ?_) rfl (by kernel_rfl) (by kernel_rfl) (by kernel_rfl) (by rfl) ?_ hH ?_
    rotate_left
    · intro W hW; (try dsimp only at hW); go_simp <;> with_reducible rfl
    simp only [Act.put, List.setIfInBounds_toArray, List.set_cons_zero, List.set_cons_succ]
    refine hTake (i := 1) (v := ?_) rfl (by kernel_rfl) (by kernel_rfl) (by kernel_rfl) (by rfl) ?_ hH ?_
    rotate_left
    · intro W hW; (try dsimp only at hW); go_simp <;> with_reducible rfl
    simp only [Act.put, List.setIfInBounds_toArray, List.set_cons_zero, List.set_cons_succ]
    refine hTake (i := 2) (v := ?_) rfl (by kernel_rfl) (by kernel_rfl) (by kernel_rfl) (by rfl) ?_ hH ?_
    rotate_left
    · intro W hW; (try dsimp only at hW); go_simp <;> with_reducible rfl
    simp only [Act.put, List.setIfInBounds_toArray, List.set_cons_zero, List.set_cons_succ]
    refine hTake (i := 3) (v := ?_) rfl (by kernel_rfl) (by kernel_rfl) (by kernel_rfl) (by rfl) ?_ hH ?_
    rotate_left
    · intro W hW; (try dsimp only at hW); go_simp <;> with_reducible rfl
    simp only [Act.put, List.setIfInBounds_toArray, List.set_cons_zero, List.set_cons_succ]
    refine hTake (i := 4) (v := ?_) rfl (by kernel_rfl) (by kernel_rfl) (by kernel_rfl) (by rfl) ?_ hH ?_
    rotate_left
    · intro W hW; (try dsimp only at hW); go_simp <;> with_reducible rfl
    simp only [Act.put, List.setIfInBounds_toArray, List.set_cons_zero, List.set_cons_succ]
    refine hTake (i := 7) (v := ?_) rfl (by kernel_rfl) (by kernel_rfl) (by kernel_rfl) (by rfl) ?_ hH ?_
    rotate_left
    · intro W hW; (try dsimp only at hW); go_simp <;> with_reducible rfl
    simp only [Act.put, List.setIfInBounds_toArray, List.set_cons_zero, List.set_cons_succ]
    refine hTake (i := 8) (v := ?_) rfl (by kernel_rfl) (by kernel_rfl) (by kernel_rfl) (by rfl) ?_ hH ?_
    rotate_left
    · intro W hW; (try dsimp only at hW); go_simp <;> with_reducible rfl
    simp only [Act.put, List.setIfInBounds_toArray, List.set_cons_zero, List.set_cons_succ]
    refine wpAnyH_ready (rs := [5]) (by kernel_rfl) (by simp) ?_
    refine AllReadyH.cons rfl (fun K hK => ?_) AllReadyH.nil
    go_simp
    refine (SS _ (o1.below hH.2)).mono ?_
    rintro e w3 ⟨a3, m3, c3, r3, p3, q3, rfl, b3⟩
    have hfd := fun W => fieldUr c a3 m3 c3 r3 p3 q3 W
    go_wp2_with fail
    refine hK.out _ _ ?_ (fun hH => ?_)
    · exact ⟨keep_cell b3 hH.1, hH.2.trans (b3.mono hH.2.size)⟩
    clear hK K
    refine hTake (i := 6) (v := ?_) rfl (by kernel_rfl) (by kernel_rfl) (by kernel_rfl) (by rfl) ?_ hH ?_
    rotate_left
    · intro W hW; (try dsimp only at hW); go_simp <;> with_reducible rfl
    simp only [Act.put, List.setIfInBounds_toArray, List.set_cons_zero, List.set_cons_succ]
    refine hTake (i := 9) (v := ?_) rfl (by kernel_rfl) (by kernel_rfl) (by kernel_rfl) (by rfl) ?_ hH ?_
    rotate_left
    · intro W hW; (try dsimp only at hW); go_simp <;> with_reducible rfl
    simp only [Act.put, List.setIfInBounds_toArray, List.set_cons_zero, List.set_cons_succ]
    refine hTake (i := 10) (v := ?_) rfl (by kernel_rfl) (by kernel_rfl) (by kernel_rfl) (by rfl) ?_ hH ?_
    rotate_left
    · intro W hW; (try dsimp only at hW); go_simp <;> with_reducible rfl
    simp only [Act.put, List.setIfInBounds_toArray, List.set_cons_zero, List.set_cons_succ]
    refine wpAnyH_done (by kernel_rfl) ?_ _
    refine NoPanic.normal ?_
    have b6 := hH.2
    clear hH
    go_wp2
    go_ret
    exact ⟨rfl, bE.trans (b6.mono bE.size)⟩
  subst hc0
  obtain ⟨bh, bv, ls'', h3, o3, hg, hg', hg'', hrs, hbf, hval, hund, hsame⟩ := Ch.sets_walk hR.out
  subst hrs
  rw [hbf] at BO
  simp only at BO
  have VI := fun (W : World) (hW : LvAt W a2 m2 ls') => implValueIn_any a2 m2 c2 key ls' W hW hsm
  rw [hval] at VI
  have UA := fun (W : World) (A : Option Addr) (hW : LvAt W a2 m2 ls') (hB : CellsAt W A (1 * 3) (bfcells [⟨key, bh, bv⟩])) => implUndoAll_any a2 m2 c2 tx A 1 1 ls' [⟨key, bh, bv⟩] W hW hsm hB (by omega)
  rw [hund] at UA
  simp only at UA
  have LF : ∀ W, OwnU W w1.heap.size (.slice a2 m2 c2) m2 ls' (.slice r2 p2 q2) p2 [⟨2, tx, key, bh, bv, has, v⟩] → _ := fun W hW => implLeaves_any a2 m2 c2 ls' W (OwnU.lv hW hsm) hsm
  rw [hg'] at LF
  have hp2 : p2 = 1 := o2.len.2
  subst hp2
  obtain ⟨mF, hmF⟩ : ∃ m, Hid (ls.flatten.length = m) := ⟨_, rfl⟩
  have RO := fun (W : World) (hW : OwnLv W w.heap.size (.slice a1 n1 c1) n1 ls) => implRowsOf_ok a1 n1 c1 ls W (OwnLv.at hW hsa) hs hg mF hmF
  have hmFb : mF ≤ 1048576 := by have := hmF.out; have := Ch.flat_240 hg; omega
  obtain ⟨mG, hmG⟩ : ∃ m, Hid (ls''.flatten.length = m) := ⟨_, rfl⟩
  have hsz := Ch.good_size hg''
  have RU := fun (W : World) (A : Option Addr) (m c : Nat) (hW : LvAt W A m ls'') => implRowsOf_ok A m c ls'' W hW hsz hg'' mG hmG
  have hmGb : mG ≤ 1048576 := by have := hmG.out; have := Ch.flat_240 hg''; omega
  have MF := fun (W : World) (A : Option Addr) (c : Nat) (hW : CellsAt W A (mF * 3) (rcells ls.flatten)) => implMapOf_any A mF c ls.flatten W hW hmFb
  rw [Ch.map_good hg] at MF
  have MG := fun (W : World) (A : Option Addr) (c : Nat) (hW : CellsAt W A (mG * 3) (rcells ls''.flatten)) => implMapOf_any A mG c ls''.flatten W hW hmGb
  rw [Ch.map_good hg'', ← hsame] at MG
  simp only at MF MG
  generalize Ch.noGhost ls.flatten = G at *
  generalize ls.flatten = FA at *
  generalize ls''.flatten = FB at *
  clear SS hR hval hund hg hg' hbf hsame hmF hmG
  have o2' := o2
  have hP8 := heap_alloc_new w2 (.cells #[.int .i64 0, .slice a2 m2 c2, .slice r2 1 q2] 29)
  have kP8 := bA2 (.cells #[.int .i64 0, .slice a2 m2 c2, .slice r2 1 q2] 29)
  obtain ⟨x0, x1, x2⟩ := undo_box hP8
  go_wp2_with fail
  refine (BO _ (o1.below kP8)).mono ?_
  rintro e w3 ⟨rfl, b3⟩
  have hP8 := block_below b3 hP8
  have kE := kP8.trans (b3.mono (by simp))
  have o1 := o1.below kE
  have o2 := o2.below kE
  have bE := bE.trans (kE.mono bE.size)
  clear x0 x1 x2 kP8 b3 kE bA2 o2'
  have kP9 : Below w3.heap.size w3 (w3.alloc (.cells #[.int .i64 key, .bool bh, .int .i64 bv] 32)) := (Below.refl _ _).alloc (Nat.le_refl _) _
  have hP9 := heap_alloc_new w3 (.cells #[.int .i64 key, .bool bh, .int .i64 bv] 32)
  have hP8 := block_below kP9 hP8
  have l8 := (Array.getElem?_eq_some_iff.1 hP8).1
  obtain ⟨x0, x1, x2⟩ := undo_box hP8
  go_wp2_with fail
  refine (VI _ ((o2.below kP9).lv hsm)).mono ?_
  rintro e w4 ⟨rfl, b4⟩
  have hP8 := block_below b4 hP8
  have hP9 := block_below b4 hP9
  have kE := kP9.trans (b4.mono (by simp))
  have o1 := o1.below kE
  have o2 := o2.below kE
  have bE := bE.trans (kE.mono bE.size)
  clear x0 x1 x2 kP9 b4 kE VI BO
  generalize hvc : (if has = true then ((0 : Int), v) else ((4 : Int), (0 : Int))) = vr at *
  obtain ⟨vc, vv⟩ := vr
  have HVC := hid hvc
  clear hvc
  simp only
  have kP10 : Below w4.heap.size w4 (w4.alloc (.cells #[.int .i64 vc, .int .i64 vv] 35)) := (Below.refl _ _).alloc (Nat.le_refl _) _
  have hP10 := heap_alloc_new w4 (.cells #[.int .i64 vc, .int .i64 vv] 35)
  have hP8 := block_below kP10 hP8
  have hP9 := block_below kP10 hP9
  have o1 := o1.below kP10
  have o2 := o2.below kP10
  have bE := bE.trans (kP10.mono bE.size)
  have zW4 : Hid ((w4.alloc (.cells #[.int .i64 vc, .int .i64 vv] 35)).heap.size = w4.heap.size + 1) := by show _ = _; simp
  obtain ⟨W4, hW4⟩ : ∃ x, Hid (w4.alloc (.cells #[.int .i64 vc, .int .i64 vv] 35) = x) := ⟨_, rfl⟩
  have l8 := (Array.getElem?_eq_some_iff.1 hP8).1
  have l9 := (Array.getElem?_eq_some_iff.1 hP9).1
  obtain ⟨x0, x1, x2⟩ := undo_box hP8
  obtain ⟨y0, y1, y2⟩ := undo_box hP9
  have hT := new_befA (w4.alloc (.cells #[.int .i64 vc, .int .i64 vv] 35)) key bh bv 32
  rw [zW4.out] at hT
  have kT : Below (w4.alloc (.cells #[.int .i64 vc, .int .i64 vv] 35)).heap.size (w4.alloc (.cells #[.int .i64 vc, .int .i64 vv] 35)) ((w4.alloc (.cells #[.int .i64 vc, .int .i64 vv] 35)).alloc (.cells #[.int .i64 key, .bool bh, .int .i64 bv] 32)) := (Below.refl _ _).alloc (Nat.le_refl _) _
  go_wp2_with fail
  refine (UA _ _ ((o2.below kT).lv hsm) hT).mono ?_
  rintro e w5 ⟨a5, m5, c5, r5, p5, q5, rfl, o5, b5⟩
  have hp5 : p5 = 1 := o5.len.2
  subst hp5
  have kE := kT.trans (b5.mono (by simp))
  have hP8 := block_below kE hP8
  have hP9 := block_below kE hP9
  have hP10 := block_below kE hP10
  have o1 := o1.below kE
  have o2 := o2.below kE
  have bE := bE.trans (kE.mono bE.size)
  clear x0 x1 x2 y0 y1 y2 kT b5 kE UA hT kP10
  have bA5 : Below w5.heap.size w5 (w5.alloc (.cells #[.int .i64 0, .slice a5 m5 c5, .slice r5 1 q5] 29)) := (Below.refl _ _).alloc (Nat.le_refl _) _
  have hP11 := heap_alloc_new w5 (.cells #[.int .i64 0, .slice a5 m5 c5, .slice r5 1 q5] 29)
  have hP8 := block_below bA5 hP8
  have hP9 := block_below bA5 hP9
  have hP10 := block_below bA5 hP10
  obtain ⟨x0, x1, x2⟩ := undo_box hP8
  obtain ⟨y0, y1, y2⟩ := undo_box hP9
  obtain ⟨v0, v1⟩ := two_of hP10
  obtain ⟨u0, u1, u2⟩ := undo_box hP11
  obtain ⟨rb, ro, hr2, k0, k3, k4⟩ := rec_one (o2.below bA5).rc
  obtain ⟨ub, uo, hr5, j0, j3, j4⟩ := rec_one (o5.below bA5).rc
  subst hr2
  subst hr5
  simp only at k0 k3 k4 j0
  clear j3 j4 hP8 hP9 hP10 x0 y0 zW4
  have lx := lt_of_cell x1
  have ly := lt_of_cell y1
  have lv := lt_of_cell v0
  have lu := lt_of_cell u0
  have hbb : (bh != bh) = false := by simp
  have hvb : (bv != bv) = false := by simp
  have lr := lt_of_cell k0
  have lj := lt_of_cell j0
  have oA := o1
  have oB := o2
  have oC := o5
  have bF0 := bE
  clear o1 o2 o5 bE
  cases has
  · have e1 := HVC.out
    simp only [Bool.false_eq_true, if_false, Prod.mk.injEq] at e1
    obtain ⟨rfl, rfl⟩ := e1
    go_wp2_with fail
    refine wp_region_noPanic ?_
    refine wp_region_held_drew (S := fun W' => W'.cell? ⟨w2.heap.size, 1, none⟩ = some (.slice a2 m2 c2) ∧ W'.cell? ⟨w2.heap.size, 2, none⟩ = some (.slice (some ⟨rb, ro, none⟩) 1 q2) ∧ W'.cell? ⟨w3.heap.size, 1, none⟩ = some (.bool bh) ∧ W'.cell? ⟨w3.heap.size, 2, none⟩ = some (.int .i64 bv) ∧ W'.cell? ⟨w4.heap.size, 0, none⟩ = some (.int .i64 4) ∧ W'.cell? ⟨w4.heap.size, 1, none⟩ = some (.int .i64 0) ∧ W'.cell? ⟨w5.heap.size, 0, none⟩ = some (.int .i64 0) ∧ W'.cell? ⟨w5.heap.size, 1, none⟩ = some (.slice a5 m5 c5) ∧ W'.cell? ⟨w5.heap.size, 2, none⟩ = some (.slice (some ⟨ub, uo, none⟩) 1 q5) ∧ W'.cell? ⟨rb, ro, none⟩ = some (.int .i64 2) ∧ W'.cell? ⟨rb, ro + 3, none⟩ = some (.bool bh) ∧ W'.cell? ⟨rb, ro + 4, none⟩ = some (.int .i64 bv) ∧ W'.cell? ⟨ub, uo, none⟩ = some (.int .i64 3) ∧ Below w5.heap.size w5 W') (by kernel_rfl) (⟨x1, x2, y1, y2, v0, v1, u0, u1, u2, k0, k3, k4, j0, bA5.drew⟩) (fun hH => ?_)
    refine hTake (i := 0) (v := ?_) rfl (by kernel_rfl) (by kernel_rfl) (by kernel_rfl) (by rfl) ?_ hH ?_
    rotate_left
    · intro W hW; (try dsimp only at hW); go_simp <;> with_reducible rfl
    simp only [Act.put, List.setIfInBounds_toArray, List.set_cons_zero, List.set_cons_succ]
    refine hTake (i := 1) (v := ?_) rfl (by kernel_rfl) (by kernel_rfl) (by kernel_rfl) (by rfl) ?_ hH ?_
    rotate_left
    · intro W hW; (try dsimp only at hW); go_simp <;> with_reducible rfl
    simp only [Act.put, List.setIfInBounds_toArray, List.set_cons_zero, List.set_cons_succ]
    refine wpAnyH_ready (rs := [2]) (by kernel_rfl) (by simp) ?_
    refine AllReadyH.cons rfl (fun K hK => ?_) AllReadyH.nil
    go_simp
    refine (LF _ (oB.below hH.2.2.2.2.2.2.2.2.2.2.2.2.2)).mono ?_
    rintro e w6 ⟨rfl, b6⟩
    refine hK.out _ _ ?_ (fun hH => ?_)
    · exact ⟨keep_cell b6 hH.1, keep_cell b6 hH.2.1, keep_cell b6 hH.2.2.1, keep_cell b6 hH.2.2.2.1, keep_cell b6 hH.2.2.2.2.1, keep_cell b6 hH.2.2.2.2.2.1, keep_cell b6 hH.2.2.2.2.2.2.1, keep_cell b6 hH.2.2.2.2.2.2.2.1, keep_cell b6 hH.2.2.2.2.2.2.2.2.1, keep_cell b6 hH.2.2.2.2.2.2.2.2.2.1, keep_cell b6 hH.2.2.2.2.2.2.2.2.2.2.1, keep_cell b6 hH.2.2.2.2.2.2.2.2.2.2.2.1, keep_cell b6 hH.2.2.2.2.2.2.2.2.2.2.2.2.1, hH.2.2.2.2.2.2.2.2.2.2.2.2.2.trans (b6.mono hH.2.2.2.2.2.2.2.2.2.2.2.2.2.size)⟩
    clear hK K
    refine hTake (i := 3) (v := ?_) rfl (by kernel_rfl) (by kernel_rfl) (by kernel_rfl) (by rfl) ?_ hH ?_
    rotate_left
    · intro W hW; (try dsimp only at hW); go_simp <;> with_reducible rfl
    simp only [Act.put, List.setIfInBounds_toArray, List.set_cons_zero, List.set_cons_succ]
    refine hTake (i := 4) (v := ?_) rfl (by kernel_rfl) (by kernel_rfl) (by kernel_rfl) (by rfl) ?_ hH ?_
    rotate_left
    · intro W hW; (try dsimp only at hW); go_simp <;> with_reducible rfl
    simp only [Act.put, List.setIfInBounds_toArray, List.set_cons_zero, List.set_cons_succ]
    refine hTake (i := 5) (v := ?_) rfl (by kernel_rfl) (by kernel_rfl) (by kernel_rfl) (by rfl) ?_ hH ?_
    rotate_left
    · intro W hW; (try dsimp only at hW); go_simp <;> with_reducible rfl
    simp only [Act.put, List.setIfInBounds_toArray, List.set_cons_zero, List.set_cons_succ]
    refine hTake (i := 6) (v := ?_) rfl (by kernel_rfl) (by kernel_rfl) (by kernel_rfl) (by rfl) ?_ hH ?_
    rotate_left
    · intro W hW; (try dsimp only at hW); go_simp <;> with_reducible rfl
    simp only [Act.put, List.setIfInBounds_toArray, List.set_cons_zero, List.set_cons_succ]
    refine hTake (i := 7) (v := ?_) rfl (by kernel_rfl) (by kernel_rfl) (by kernel_rfl) (by rfl) ?_ hH ?_
    rotate_left
    · intro W hW; (try dsimp only at hW); go_simp <;> with_reducible rfl
    simp only [Act.put, List.setIfInBounds_toArray, List.set_cons_zero, List.set_cons_succ]
    refine hTake (i := 8) (v := ?_) rfl (by kernel_rfl) (by kernel_rfl) (by kernel_rfl) (by rfl) ?_ hH ?_
    rotate_left
    · intro W hW; (try dsimp only at hW); go_simp <;> with_reducible rfl
    simp only [Act.put, List.setIfInBounds_toArray, List.set_cons_zero, List.set_cons_succ]
    refine hTake (i := 9) (v := ?_) rfl (by kernel_rfl) (by kernel_rfl) (by kernel_rfl) (by rfl) ?_ hH ?_
    rotate_left
    · intro W hW; (try dsimp only at hW); go_simp <;> with_reducible rfl
    simp only [Act.put, List.setIfInBounds_toArray, List.set_cons_zero, List.set_cons_succ]
    refine hTake (i := 10) (v := ?_) rfl (by kernel_rfl) (by kernel_rfl) (by kernel_rfl) (by rfl) ?_ hH ?_
    rotate_left
    · intro W hW; (try dsimp only at hW); go_simp <;> with_reducible rfl
    simp only [Act.put, List.setIfInBounds_toArray, List.set_cons_zero, List.set_cons_succ]
    refine hTake (i := 11) (v := ?_) rfl (by kernel_rfl) (by kernel_rfl) (by kernel_rfl) (by rfl) ?_ hH ?_
    rotate_left
    · intro W hW; (try dsimp only at hW); go_simp <;> with_reducible rfl
    simp only [Act.put, List.setIfInBounds_toArray, List.set_cons_zero, List.set_cons_succ]
    refine hTake (i := 12) (v := ?_) rfl (by kernel_rfl) (by kernel_rfl) (by kernel_rfl) (by rfl) ?_ hH ?_
    rotate_left
    · intro W hW; (try dsimp only at hW); go_simp <;> with_reducible rfl
    simp only [Act.put, List.setIfInBounds_toArray, List.set_cons_zero, List.set_cons_succ]
    refine hTake (i := 13) (v := ?_) rfl (by kernel_rfl) (by kernel_rfl) (by kernel_rfl) (by rfl) ?_ hH ?_
    rotate_left
    · intro W hW; (try dsimp only at hW); go_simp <;> with_reducible rfl
    simp only [Act.put, List.setIfInBounds_toArray, List.set_cons_zero, List.set_cons_succ]
    refine hSkip (i := 14) rfl (by kernel_rfl) (by kernel_rfl) (by kernel_rfl) (by rfl) hH ?_
    simp only [Act.put, List.setIfInBounds_toArray, List.set_cons_zero, List.set_cons_succ]
    refine hSkip (i := 15) rfl (by kernel_rfl) (by kernel_rfl) (by kernel_rfl) (by rfl) hH ?_
    simp only [Act.put, List.setIfInBounds_toArray, List.set_cons_zero, List.set_cons_succ]
    refine hSkip (i := 16) rfl (by kernel_rfl) (by kernel_rfl) (by kernel_rfl) (by rfl) hH ?_
    simp only [Act.put, List.setIfInBounds_toArray, List.set_cons_zero, List.set_cons_succ]
    refine hSkip (i := 17) rfl (by kernel_rfl) (by kernel_rfl) (by kernel_rfl) (by rfl) hH ?_
    simp only [Act.put, List.setIfInBounds_toArray, List.set_cons_zero, List.set_cons_succ]
    refine hTake (i := 18) (v := ?_) rfl (by kernel_rfl) (by kernel_rfl) (by kernel_rfl) (by rfl) ?_ hH ?_
    rotate_left
    · intro W hW; (try dsimp only at hW); go_simp <;> with_reducible rfl
    simp only [Act.put, List.setIfInBounds_toArray, List.set_cons_zero, List.set_cons_succ]
    refine hTake (i := 19) (v := ?_) rfl (by kernel_rfl) (by kernel_rfl) (by kernel_rfl) (by rfl) ?_ hH ?_
    rotate_left
    · intro W hW; (try dsimp only at hW); go_simp <;> with_reducible rfl
    simp only [Act.put, List.setIfInBounds_toArray, List.set_cons_zero, List.set_cons_succ]
    refine hTake (i := 20) (v := ?_) rfl (by kernel_rfl) (by kernel_rfl) (by kernel_rfl) (by rfl) ?_ hH ?_
    rotate_left
    · intro W hW; (try dsimp only at hW); go_simp <;> with_reducible rfl
    simp only [Act.put, List.setIfInBounds_toArray, List.set_cons_zero, List.set_cons_succ]
    refine hTake (i := 21) (v := ?_) rfl (by kernel_rfl) (by kernel_rfl) (by kernel_rfl) (by rfl) ?_ hH ?_
    rotate_left
    · intro W hW; (try dsimp only at hW); go_simp <;> with_reducible rfl
    simp only [Act.put, List.setIfInBounds_toArray, List.set_cons_zero, List.set_cons_succ]
    refine hTake (i := 22) (v := ?_) rfl (by kernel_rfl) (by kernel_rfl) (by kernel_rfl) (by rfl) ?_ hH ?_
    rotate_left
    · intro W hW; (try dsimp only at hW); go_simp <;> with_reducible rfl
    simp only [Act.put, List.setIfInBounds_toArray, List.set_cons_zero, List.set_cons_succ]
    refine hTake (i := 23) (v := ?_) rfl (by kernel_rfl) (by kernel_rfl) (by kernel_rfl) (by rfl) ?_ hH ?_
    rotate_left
    · intro W hW; (try dsimp only at hW); go_simp <;> with_reducible rfl
    simp only [Act.put, List.setIfInBounds_toArray, List.set_cons_zero, List.set_cons_succ]
    refine hTake (i := 24) (v := ?_) rfl (by kernel_rfl) (by kernel_rfl) (by kernel_rfl) (by rfl) ?_ hH ?_
    rotate_left
    · intro W hW; (try dsimp only at hW); go_simp <;> with_reducible rfl
    simp only [Act.put, List.setIfInBounds_toArray, List.set_cons_zero, List.set_cons_succ]
    refine hTake (i := 25) (v := ?_) rfl (by kernel_rfl) (by kernel_rfl) (by kernel_rfl) (by rfl) ?_ hH ?_
    rotate_left
    · intro W hW; (try dsimp only at hW); go_simp <;> with_reducible rfl
    simp only [Act.put, List.setIfInBounds_toArray, List.set_cons_zero, List.set_cons_succ]
    refine hTake (i := 26) (v := ?_) rfl (by kernel_rfl) (by kernel_rfl) (by kernel_rfl) (by rfl) ?_ hH ?_
    rotate_left
    · intro W hW; (try dsimp only at hW); go_simp <;> with_reducible rfl
    simp only [Act.put, List.setIfInBounds_toArray, List.set_cons_zero, List.set_cons_succ]
    refine hTake (i := 27) (v := ?_) rfl (by kernel_rfl) (by kernel_rfl) (by kernel_rfl) (by rfl) ?_ hH ?_
    rotate_left
    · intro W hW; (try dsimp only at hW); go_simp <;> with_reducible rfl
    simp only [Act.put, List.setIfInBounds_toArray, List.set_cons_zero, List.set_cons_succ]
    refine hTake (i := 28) (v := ?_) rfl (by kernel_rfl) (by kernel_rfl) (by kernel_rfl) (by rfl) ?_ hH ?_
    rotate_left
    · intro W hW; (try dsimp only at hW); go_simp <;> with_reducible rfl
    simp only [Act.put, List.setIfInBounds_toArray, List.set_cons_zero, List.set_cons_succ]
    refine hTake (i := 29) (v := ?_) rfl (by kernel_rfl) (by kernel_rfl) (by kernel_rfl) (by rfl) ?_ hH ?_
    rotate_left
    · intro W hW; (try dsimp only at hW); go_simp <;> with_reducible rfl
    simp only [Act.put, List.setIfInBounds_toArray, List.set_cons_zero, List.set_cons_succ]
    refine hTake (i := 30) (v := ?_) rfl (by kernel_rfl) (by kernel_rfl) (by kernel_rfl) (by rfl) ?_ hH ?_
    rotate_left
    · intro W hW; (try dsimp only at hW); go_simp <;> with_reducible rfl
    simp only [Act.put, List.setIfInBounds_toArray, List.set_cons_zero, List.set_cons_succ]
    refine hTake (i := 31) (v := ?_) rfl (by kernel_rfl) (by kernel_rfl) (by kernel_rfl) (by rfl) ?_ hH ?_
    rotate_left
    · intro W hW; (try dsimp only at hW); go_simp <;> with_reducible rfl
    simp only [Act.put, List.setIfInBounds_toArray, List.set_cons_zero, List.set_cons_succ]
    refine hTake (i := 32) (v := ?_) rfl (by kernel_rfl) (by kernel_rfl) (by kernel_rfl) (by rfl) ?_ hH ?_
    rotate_left
    · intro W hW; (try dsimp only at hW); go_simp <;> with_reducible rfl
    simp only [Act.put, List.setIfInBounds_toArray, List.set_cons_zero, List.set_cons_succ]
    refine hTake (i := 33) (v := ?_) rfl (by kernel_rfl) (by kernel_rfl) (by kernel_rfl) (by rfl) ?_ hH ?_
    rotate_left
    · intro W hW; (try dsimp only at hW); go_simp <;> with_reducible rfl
    simp only [Act.put, List.setIfInBounds_toArray, List.set_cons_zero, List.set_cons_succ]
    refine hTake (i := 34) (v := ?_) rfl (by kernel_rfl) (by kernel_rfl) (by kernel_rfl) (by rfl) ?_ hH ?_
    rotate_left
    · intro W hW; (try dsimp only at hW); go_simp <;> with_reducible rfl
    simp only [Act.put, List.setIfInBounds_toArray, List.set_cons_zero, List.set_cons_succ]
    refine hTake (i := 35) (v := ?_) rfl (by kernel_rfl) (by kernel_rfl) (by kernel_rfl) (by rfl) ?_ hH ?_
    rotate_left
    · intro W hW; (try dsimp only at hW); go_simp <;> with_reducible rfl
    simp only [Act.put, List.setIfInBounds_toArray, List.set_cons_zero, List.set_cons_succ]
    refine hTake (i := 36) (v := ?_) rfl (by kernel_rfl) (by kernel_rfl) (by kernel_rfl) (by rfl) ?_ hH ?_
    rotate_left
    · intro W hW; (try dsimp only at hW); go_simp <;> with_reducible rfl
    simp only [Act.put, List.setIfInBounds_toArray, List.set_cons_zero, List.set_cons_succ]
    refine hTake (i := 37) (v := ?_) rfl (by kernel_rfl) (by kernel_rfl) (by kernel_rfl) (by rfl) ?_ hH ?_
    rotate_left
    · intro W hW; (try dsimp only at hW); go_simp <;> with_reducible rfl
    simp only [Act.put, List.setIfInBounds_toArray, List.set_cons_zero, List.set_cons_succ]
    refine hTake (i := 38) (v := ?_) rfl (by kernel_rfl) (by kernel_rfl) (by kernel_rfl) (by rfl) ?_ hH ?_
    rotate_left
    · intro W hW; (try dsimp only at hW); go_simp <;> with_reducible rfl
    simp only [Act.put, List.setIfInBounds_toArray, List.set_cons_zero, List.set_cons_succ]
    refine hTake (i := 39) (v := ?_) rfl (by kernel_rfl) (by kernel_rfl) (by kernel_rfl) (by rfl) ?_ hH ?_
    rotate_left
    · intro W hW; (try dsimp only at hW); go_simp <;> with_reducible rfl
    simp only [Act.put, List.setIfInBounds_toArray, List.set_cons_zero, List.set_cons_succ]
    refine hTake (i := 40) (v := ?_) rfl (by kernel_rfl) (by kernel_rfl) (by kernel_rfl) (by rfl) ?_ hH ?_
    rotate_left
    · intro W hW; (try dsimp only at hW); go_simp <;> with_reducible rfl
    simp only [Act.put, List.setIfInBounds_toArray, List.set_cons_zero, List.set_cons_succ]
    refine hTake (i := 41) (v := ?_) rfl (by kernel_rfl) (by kernel_rfl) (by kernel_rfl) (by rfl) ?_ hH ?_
    rotate_left
    · intro W hW; (try dsimp only at hW); go_simp <;> with_reducible rfl
    simp only [Act.put, List.setIfInBounds_toArray, List.set_cons_zero, List.set_cons_succ]
    refine hTake (i := 42) (v := ?_) rfl (by kernel_rfl) (by kernel_rfl) (by kernel_rfl) (by rfl) ?_ hH ?_
    rotate_left
    · intro W hW; (try dsimp only at hW); go_simp <;> with_reducible rfl
    simp only [Act.put, List.setIfInBounds_toArray, List.set_cons_zero, List.set_cons_succ]
    refine hTake (i := 43) (v := ?_) rfl (by kernel_rfl) (by kernel_rfl) (by kernel_rfl) (by rfl) ?_ hH ?_
    rotate_left
    · intro W hW; (try dsimp only at hW); go_simp <;> with_reducible rfl
    simp only [Act.put, List.setIfInBounds_toArray, List.set_cons_zero, List.set_cons_succ]
    refine hTake (i := 44) (v := ?_) rfl (by kernel_rfl) (by kernel_rfl) (by kernel_rfl) (by rfl) ?_ hH ?_
    rotate_left
    · intro W hW; (try dsimp only at hW); go_simp <;> with_reducible rfl
    simp only [Act.put, List.setIfInBounds_toArray, List.set_cons_zero, List.set_cons_succ]
    refine hTake (i := 45) (v := ?_) rfl (by kernel_rfl) (by kernel_rfl) (by kernel_rfl) (by rfl) ?_ hH ?_
    rotate_left
    · intro W hW; (try dsimp only at hW); go_simp <;> with_reducible rfl
    simp only [Act.put, List.setIfInBounds_toArray, List.set_cons_zero, List.set_cons_succ]
    refine hTake (i := 46) (v := ?_) rfl (by kernel_rfl) (by kernel_rfl) (by kernel_rfl) (by rfl) ?_ hH ?_
    rotate_left
    · intro W hW; (try dsimp only at hW); go_simp <;> with_reducible rfl
    simp only [Act.put, List.setIfInBounds_toArray, List.set_cons_zero, List.set_cons_succ]
    refine hTake (i := 47) (v := ?_) rfl (by kernel_rfl) (by kernel_rfl) (by kernel_rfl) (by rfl) ?_ hH ?_
    rotate_left
    · intro W hW; (try dsimp only at hW); go_simp <;> with_reducible rfl
    simp only [Act.put, List.setIfInBounds_toArray, List.set_cons_zero, List.set_cons_succ]
    refine hTake (i := 48) (v := ?_) rfl (by kernel_rfl) (by kernel_rfl) (by kernel_rfl) (by rfl) ?_ hH ?_
    rotate_left
    · intro W hW; (try dsimp only at hW); go_simp <;> with_reducible rfl
    simp only [Act.put, List.setIfInBounds_toArray, List.set_cons_zero, List.set_cons_succ]
    refine hTake (i := 49) (v := ?_) rfl (by kernel_rfl) (by kernel_rfl) (by kernel_rfl) (by rfl) ?_ hH ?_
    rotate_left
    · intro W hW; (try dsimp only at hW); go_simp <;> with_reducible rfl
    simp only [Act.put, List.setIfInBounds_toArray, List.set_cons_zero, List.set_cons_succ]
    refine hTake (i := 50) (v := ?_) rfl (by kernel_rfl) (by kernel_rfl) (by kernel_rfl) (by rfl) ?_ hH ?_
    rotate_left
    · intro W hW; (try dsimp only at hW); go_simp <;> with_reducible rfl
    simp only [Act.put, List.setIfInBounds_toArray, List.set_cons_zero, List.set_cons_succ]
    refine hTake (i := 51) (v := ?_) rfl (by kernel_rfl) (by kernel_rfl) (by kernel_rfl) (by rfl) ?_ hH ?_
    rotate_left
    · intro W hW; (try dsimp only at hW); go_simp <;> with_reducible rfl
    simp only [Act.put, List.setIfInBounds_toArray, List.set_cons_zero, List.set_cons_succ]
    refine hTake (i := 52) (v := ?_) rfl (by kernel_rfl) (by kernel_rfl) (by kernel_rfl) (by rfl) ?_ hH ?_
    rotate_left
    · intro W hW; (try dsimp only at hW); go_simp <;> with_reducible rfl
    simp only [Act.put, List.setIfInBounds_toArray, List.set_cons_zero, List.set_cons_succ]
    refine hTake (i := 53) (v := ?_) rfl (by kernel_rfl) (by kernel_rfl) (by kernel_rfl) (by rfl) ?_ hH ?_
    rotate_left
    · intro W hW; (try dsimp only at hW); go_simp <;> with_reducible rfl
    simp only [Act.put, List.setIfInBounds_toArray, List.set_cons_zero, List.set_cons_succ]
    refine hTake (i := 54) (v := ?_) rfl (by kernel_rfl) (by kernel_rfl) (by kernel_rfl) (by rfl) ?_ hH ?_
    rotate_left
    · intro W hW; (try dsimp only at hW); go_simp <;> with_reducible rfl
    simp only [Act.put, List.setIfInBounds_toArray, List.set_cons_zero, List.set_cons_succ]
    refine hTake (i := 55) (v := ?_) rfl (by kernel_rfl) (by kernel_rfl) (by kernel_rfl) (by rfl) ?_ hH ?_
    rotate_left
    · intro W hW; (try dsimp only at hW); go_simp <;> with_reducible rfl
    simp only [Act.put, List.setIfInBounds_toArray, List.set_cons_zero, List.set_cons_succ]
    refine hTake (i := 56) (v := ?_) rfl (by kernel_rfl) (by kernel_rfl) (by kernel_rfl) (by rfl) ?_ hH ?_
    rotate_left
    · intro W hW; (try dsimp only at hW); go_simp <;> with_reducible rfl
    simp only [Act.put, List.setIfInBounds_toArray, List.set_cons_zero, List.set_cons_succ]
    refine hTake (i := 57) (v := ?_) rfl (by kernel_rfl) (by kernel_rfl) (by kernel_rfl) (by rfl) ?_ hH ?_
    rotate_left
    · intro W hW; (try dsimp only at hW); go_simp <;> with_reducible rfl
    simp only [Act.put, List.setIfInBounds_toArray, List.set_cons_zero, List.set_cons_succ]
    refine hTake (i := 58) (v := ?_) rfl (by kernel_rfl) (by kernel_rfl) (by kernel_rfl) (by rfl) ?_ hH ?_
    rotate_left
    · intro W hW; (try dsimp only at hW); go_simp <;> with_reducible rfl
    simp only [Act.put, List.setIfInBounds_toArray, List.set_cons_zero, List.set_cons_succ]
    refine hTake (i := 59) (v := ?_) rfl (by kernel_rfl) (by kernel_rfl) (by kernel_rfl) (by rfl) ?_ hH ?_
    rotate_left
    · intro W hW; (try dsimp only at hW); go_simp <;> with_reducible rfl
    simp only [Act.put, List.setIfInBounds_toArray, List.set_cons_zero, List.set_cons_succ]
    refine hTake (i := 60) (v := ?_) rfl (by kernel_rfl) (by kernel_rfl) (by kernel_rfl) (by rfl) ?_ hH ?_
    rotate_left
    · intro W hW; (try dsimp only at hW); go_simp <;> with_reducible rfl
    simp only [Act.put, List.setIfInBounds_toArray, List.set_cons_zero, List.set_cons_succ]
    refine hTake (i := 61) (v := ?_) rfl (by kernel_rfl) (by kernel_rfl) (by kernel_rfl) (by rfl) ?_ hH ?_
    rotate_left
    · intro W hW; (try dsimp only at hW); go_simp <;> with_reducible rfl
    simp only [Act.put, List.setIfInBounds_toArray, List.set_cons_zero, List.set_cons_succ]
    refine hTake (i := 62) (v := ?_) rfl (by kernel_rfl) (by kernel_rfl) (by kernel_rfl) (by rfl) ?_ hH ?_
    rotate_left
    · intro W hW; (try dsimp only at hW); go_simp <;> with_reducible rfl
    simp only [Act.put, List.setIfInBounds_toArray, List.set_cons_zero, List.set_cons_succ]
    refine hTake (i := 63) (v := ?_) rfl (by kernel_rfl) (by kernel_rfl) (by kernel_rfl) (by rfl) ?_ hH ?_
    rotate_left
    · intro W hW; (try dsimp only at hW); go_simp <;> with_reducible rfl
    simp only [Act.put, List.setIfInBounds_toArray, List.set_cons_zero, List.set_cons_succ]
    refine hTake (i := 64) (v := ?_) rfl (by kernel_rfl) (by kernel_rfl) (by kernel_rfl) (by rfl) ?_ hH ?_
    rotate_left
    · intro W hW; (try dsimp only at hW); go_simp <;> with_reducible rfl
    simp only [Act.put, List.setIfInBounds_toArray, List.set_cons_zero, List.set_cons_succ]
    refine hTake (i := 65) (v := ?_) rfl (by kernel_rfl) (by kernel_rfl) (by kernel_rfl) (by rfl) ?_ hH ?_
    rotate_left
    · intro W hW; (try dsimp only at hW); go_simp <;> with_reducible rfl
    simp only [Act.put, List.setIfInBounds_toArray, List.set_cons_zero, List.set_cons_succ]
    refine hTake (i := 66) (v := ?_) rfl (by kernel_rfl) (by kernel_rfl) (by kernel_rfl) (by rfl) ?_ hH ?_
    rotate_left
    · intro W hW; (try dsimp only at hW); go_simp <;> with_reducible rfl
    simp only [Act.put, List.setIfInBounds_toArray, List.set_cons_zero, List.set_cons_succ]
    refine hTake (i := 67) (v := ?_) rfl (by kernel_rfl) (by kernel_rfl) (by kernel_rfl) (by rfl) ?_ hH ?_
    rotate_left
    · intro W hW; (try dsimp only at hW); go_simp <;> with_reducible rfl
    simp only [Act.put, List.setIfInBounds_toArray, List.set_cons_zero, List.set_cons_succ]
    refine hTake (i := 68) (v := ?_) rfl (by kernel_rfl) (by kernel_rfl) (by kernel_rfl) (by rfl) ?_ hH ?_
    rotate_left
    · intro W hW; (try dsimp only at hW); go_simp <;> with_reducible rfl
    simp only [Act.put, List.setIfInBounds_toArray, List.set_cons_zero, List.set_cons_succ]
    refine hTake (i := 69) (v := ?_) rfl (by kernel_rfl) (by kernel_rfl) (by kernel_rfl) (by rfl) ?_ hH ?_
    rotate_left
    · intro W hW; (try dsimp only at hW); go_simp <;> with_reducible rfl
    simp only [Act.put, List.setIfInBounds_toArray, List.set_cons_zero, List.set_cons_succ]
    refine hTake (i := 70) (v := ?_) rfl (by kernel_rfl) (by kernel_rfl) (by kernel_rfl) (by rfl) ?_ hH ?_
    rotate_left
    · intro W hW; (try dsimp only at hW); go_simp <;> with_reducible rfl
    simp only [Act.put, List.setIfInBounds_toArray, List.set_cons_zero, List.set_cons_succ]
    refine hTake (i := 71) (v := ?_) rfl (by kernel_rfl) (by kernel_rfl) (by kernel_rfl) (by rfl) ?_ hH ?_
    rotate_left
    · intro W hW; (try dsimp only at hW); go_simp <;> with_reducible rfl
    simp only [Act.put, List.setIfInBounds_toArray, List.set_cons_zero, List.set_cons_succ]
    refine hTake (i := 72) (v := ?_) rfl (by kernel_rfl) (by kernel_rfl) (by kernel_rfl) (by rfl) ?_ hH ?_
    rotate_left
    · intro W hW; (try dsimp only at hW); go_simp <;> with_reducible rfl
    simp only [Act.put, List.setIfInBounds_toArray, List.set_cons_zero, List.set_cons_succ]
    refine wpAnyH_done (by kernel_rfl) ?_ _
    refine NoPanic.normal ?_
    have b6 := hH.2.2.2.2.2.2.2.2.2.2.2.2.2
    have u1' := hH.2.2.2.2.2.2.2.1
    clear hH x1 x2 y1 y2 v0 v1 u0 u1 u2 k0 k3 k4 j0 lx ly lv lu lr lj
    have o1 := oA.below b6
    have o5 := oC.below b6
    have bE := bF0.trans (b6.mono bF0.size)
    have w1c := u1'
    have lw := lt_of_cell w1c
    go_wp2_with fail
    refine (RO _ o1).mono ?_
    rintro e w7 ⟨a7, c7, rfl, o7, b7⟩
    have hfd7 := fun W => fieldRs1 0 a7 mF c7 W
    go_wp2_with fail
    refine (MF _ _ _ (owns_cells o7)).mono ?_
    rintro e w8 ⟨a8, m8, c8, rfl, hm8, o8, b8⟩
    have b78 := b7.trans (b8.mono b7.size)
    have o5 := o5.below b78
    have bE := bE.trans (b78.mono bE.size)
    have w1c := keep_cell b78 w1c
    have kA8 : Below w8.heap.size w8 (w8.alloc (.cells #[.int .i64 0, .slice a8 m8 c8] 44)) := (Below.refl _ _).alloc (Nat.le_refl _) _
    have hP12 := heap_alloc_new w8 (.cells #[.int .i64 0, .slice a8 m8 c8] 44)
    have w1d := keep_cell kA8 w1c
    have lw := lt_of_cell w1d
    clear o7 b7 b8 b78 hfd7
    go_wp2_with fail
    refine (RU _ _ _ _ ((o5.below kA8).lv hsz)).mono ?_
    rintro e w9 ⟨a9, c9, rfl, o9, b9⟩
    have hfd9 := fun W => fieldRs1 0 a9 mG c9 W
    go_wp2_with fail
    refine (MG _ _ _ (owns_cells o9)).mono ?_
    rintro e w10 ⟨a10, m10, c10, rfl, hm10, o10, b10⟩
    have b910 := b9.trans (b10.mono b9.size)
    have hP12 := block_below b910 hP12
    have k910 := kA8.trans (b910.mono (by simp))
    have o8 := owns_below o8 k910
    have bE := bE.trans (k910.mono bE.size)
    have kA10 : Below w10.heap.size w10 (w10.alloc (.cells #[.int .i64 0, .slice a10 m10 c10] 44)) := (Below.refl _ _).alloc (Nat.le_refl _) _
    have hP13 := heap_alloc_new w10 (.cells #[.int .i64 0, .slice a10 m10 c10] 44)
    have hP12 := block_below kA10 hP12
    obtain ⟨z0, z1⟩ := two_of hP12
    obtain ⟨t0, t1⟩ := two_of hP13
    have lz := lt_of_cell z0
    have LW := fun W h1 h2 => lwRows_any a8 a10 m8 c8 m10 c10 G G W h1 h2 hm8 hm10
    rw [Ch.sameL_self] at LW
    clear o9 b9 b10 b910 hfd9 k910
    go_wp2_with fail
    refine (LW _ (owns_cells (owns_below o8 kA10)) (owns_cells (owns_below o10 kA10))).mono ?_
    rintro e w11 ⟨rfl, b11⟩
    have bF := bE.trans ((kA10.trans (b11.mono (by simp))).mono bE.size)
    go_wp2
    go_ret
    exact ⟨rfl, bF⟩
  · have e1 := HVC.out
    simp only [if_true, Prod.mk.injEq] at e1
    obtain ⟨rfl, rfl⟩ := e1
    have hvv : (v != v) = false := by simp
    go_wp2_with fail
    refine wp_region_noPanic ?_
    refine wp_region_held_drew (S := fun W' => W'.cell? ⟨w2.heap.size, 1, none⟩ = some (.slice a2 m2 c2) ∧ W'.cell? ⟨w2.heap.size, 2, none⟩ = some (.slice (some ⟨rb, ro, none⟩) 1 q2) ∧ W'.cell? ⟨w3.heap.size, 1, none⟩ = some (.bool bh) ∧ W'.cell? ⟨w3.heap.size, 2, none⟩ = some (.int .i64 bv) ∧ W'.cell? ⟨w4.heap.size, 0, none⟩ = some (.int .i64 0) ∧ W'.cell? ⟨w4.heap.size, 1, none⟩ = some (.int .i64 v) ∧ W'.cell? ⟨w5.heap.size, 0, none⟩ = some (.int .i64 0) ∧ W'.cell? ⟨w5.heap.size, 1, none⟩ = some (.slice a5 m5 c5) ∧ W'.cell? ⟨w5.heap.size, 2, none⟩ = some (.slice (some ⟨ub, uo, none⟩) 1 q5) ∧ W'.cell? ⟨rb, ro, none⟩ = some (.int .i64 2) ∧ W'.cell? ⟨rb, ro + 3, none⟩ = some (.bool bh) ∧ W'.cell? ⟨rb, ro + 4, none⟩ = some (.int .i64 bv) ∧ W'.cell? ⟨ub, uo, none⟩ = some (.int .i64 3) ∧ Below w5.heap.size w5 W') (by kernel_rfl) (⟨x1, x2, y1, y2, v0, v1, u0, u1, u2, k0, k3, k4, j0, bA5.drew⟩) (fun hH => ?_)
    refine hTake (i := 0) (v := ?_) rfl (by kernel_rfl) (by kernel_rfl) (by kernel_rfl) (by rfl) ?_ hH ?_
    rotate_left
    · intro W hW; (try dsimp only at hW); go_simp <;> with_reducible rfl
    simp only [Act.put, List.setIfInBounds_toArray, List.set_cons_zero, List.set_cons_succ]
    refine hTake (i := 1) (v := ?_) rfl (by kernel_rfl) (by kernel_rfl) (by kernel_rfl) (by rfl) ?_ hH ?_
    rotate_left
    · intro W hW; (try dsimp only at hW); go_simp <;> with_reducible rfl
    simp only [Act.put, List.setIfInBounds_toArray, List.set_cons_zero, List.set_cons_succ]
    refine wpAnyH_ready (rs := [2]) (by kernel_rfl) (by simp) ?_
    refine AllReadyH.cons rfl (fun K hK => ?_) AllReadyH.nil
    go_simp
    refine (LF _ (oB.below hH.2.2.2.2.2.2.2.2.2.2.2.2.2)).mono ?_
    rintro e w6 ⟨rfl, b6⟩
    refine hK.out _ _ ?_ (fun hH => ?_)
    · exact ⟨keep_cell b6 hH.1, keep_cell b6 hH.2.1, keep_cell b6 hH.2.2.1, keep_cell b6 hH.2.2.2.1, keep_cell b6 hH.2.2.2.2.1, keep_cell b6 hH.2.2.2.2.2.1, keep_cell b6 hH.2.2.2.2.2.2.1, keep_cell b6 hH.2.2.2.2.2.2.2.1, keep_cell b6 hH.2.2.2.2.2.2.2.2.1, keep_cell b6 hH.2.2.2.2.2.2.2.2.2.1, keep_cell b6 hH.2.2.2.2.2.2.2.2.2.2.1, keep_cell b6 hH.2.2.2.2.2.2.2.2.2.2.2.1, keep_cell b6 hH.2.2.2.2.2.2.2.2.2.2.2.2.1, hH.2.2.2.2.2.2.2.2.2.2.2.2.2.trans (b6.mono hH.2.2.2.2.2.2.2.2.2.2.2.2.2.size)⟩
    clear hK K
    refine hTake (i := 3) (v := ?_) rfl (by kernel_rfl) (by kernel_rfl) (by kernel_rfl) (by rfl) ?_ hH ?_
    rotate_left
    · intro W hW; (try dsimp only at hW); go_simp <;> with_reducible rfl
    simp only [Act.put, List.setIfInBounds_toArray, List.set_cons_zero, List.set_cons_succ]
    refine hTake (i := 4) (v := ?_) rfl (by kernel_rfl) (by kernel_rfl) (by kernel_rfl) (by rfl) ?_ hH ?_
    rotate_left
    · intro W hW; (try dsimp only at hW); go_simp <;> with_reducible rfl
    simp only [Act.put, List.setIfInBounds_toArray, List.set_cons_zero, List.set_cons_succ]
    refine hTake (i := 5) (v := ?_) rfl (by kernel_rfl) (by kernel_rfl) (by kernel_rfl) (by rfl) ?_ hH ?_
    rotate_left
    · intro W hW; (try dsimp only at hW); go_simp <;> with_reducible rfl
    simp only [Act.put, List.setIfInBounds_toArray, List.set_cons_zero, List.set_cons_succ]
    refine hTake (i := 6) (v := ?_) rfl (by kernel_rfl) (by kernel_rfl) (by kernel_rfl) (by rfl) ?_ hH ?_
    rotate_left
    · intro W hW; (try dsimp only at hW); go_simp <;> with_reducible rfl
    simp only [Act.put, List.setIfInBounds_toArray, List.set_cons_zero, List.set_cons_succ]
    refine hTake (i := 7) (v := ?_) rfl (by kernel_rfl) (by kernel_rfl) (by kernel_rfl) (by rfl) ?_ hH ?_
    rotate_left
    · intro W hW; (try dsimp only at hW); go_simp <;> with_reducible rfl
    simp only [Act.put, List.setIfInBounds_toArray, List.set_cons_zero, List.set_cons_succ]
    refine hTake (i := 8) (v := ?_) rfl (by kernel_rfl) (by kernel_rfl) (by kernel_rfl) (by rfl) ?_ hH ?_
    rotate_left
    · intro W hW; (try dsimp only at hW); go_simp <;> with_reducible rfl
    simp only [Act.put, List.setIfInBounds_toArray, List.set_cons_zero, List.set_cons_succ]
    refine hTake (i := 9) (v := ?_) rfl (by kernel_rfl) (by kernel_rfl) (by kernel_rfl) (by rfl) ?_ hH ?_
    rotate_left
    · intro W hW; (try dsimp only at hW); go_simp <;> with_reducible rfl
    simp only [Act.put, List.setIfInBounds_toArray, List.set_cons_zero, List.set_cons_succ]
    refine hTake (i := 10) (v := ?_) rfl (by kernel_rfl) (by kernel_rfl) (by kernel_rfl) (by rfl) ?_ hH ?_
    rotate_left
    · intro W hW; (try dsimp only at hW); go_simp <;> with_reducible rfl
    simp only [Act.put, List.setIfInBounds_toArray, List.set_cons_zero, List.set_cons_succ]
    refine hTake (i := 11) (v := ?_) rfl (by kernel_rfl) (by kernel_rfl) (by kernel_rfl) (by rfl) ?_ hH ?_
    rotate_left
    · intro W hW; (try dsimp only at hW); go_simp <;> with_reducible rfl
    simp only [Act.put, List.setIfInBounds_toArray, List.set_cons_zero, List.set_cons_succ]
    refine hTake (i := 12) (v := ?_) rfl (by kernel_rfl) (by kernel_rfl) (by kernel_rfl) (by rfl) ?_ hH ?_
    rotate_left
    · intro W hW; (try dsimp only at hW); go_simp <;> with_reducible rfl
    simp only [Act.put, List.setIfInBounds_toArray, List.set_cons_zero, List.set_cons_succ]
    refine hTake (i := 13) (v := ?_) rfl (by kernel_rfl) (by kernel_rfl) (by kernel_rfl) (by rfl) ?_ hH ?_
    rotate_left
    · intro W hW; (try dsimp only at hW); go_simp <;> with_reducible rfl
    simp only [Act.put, List.setIfInBounds_toArray, List.set_cons_zero, List.set_cons_succ]
    refine hTake (i := 14) (v := ?_) rfl (by kernel_rfl) (by kernel_rfl) (by kernel_rfl) (by rfl) ?_ hH ?_
    rotate_left
    · intro W hW; (try dsimp only at hW); go_simp <;> with_reducible rfl
    simp only [Act.put, List.setIfInBounds_toArray, List.set_cons_zero, List.set_cons_succ]
    refine hTake (i := 15) (v := ?_) rfl (by kernel_rfl) (by kernel_rfl) (by kernel_rfl) (by rfl) ?_ hH ?_
    rotate_left
    · intro W hW; (try dsimp only at hW); go_simp <;> with_reducible rfl
    simp only [Act.put, List.setIfInBounds_toArray, List.set_cons_zero, List.set_cons_succ]
    refine hTake (i := 16) (v := ?_) rfl (by kernel_rfl) (by kernel_rfl) (by kernel_rfl) (by rfl) ?_ hH ?_
    rotate_left
    · intro W hW; (try dsimp only at hW); go_simp <;> with_reducible rfl
    simp only [Act.put, List.setIfInBounds_toArray, List.set_cons_zero, List.set_cons_succ]
    refine hTake (i := 17) (v := ?_) rfl (by kernel_rfl) (by kernel_rfl) (by kernel_rfl) (by rfl) ?_ hH ?_
    rotate_left
    · intro W hW; (try dsimp only at hW); go_simp <;> with_reducible rfl
    simp only [Act.put, List.setIfInBounds_toArray, List.set_cons_zero, List.set_cons_succ]
    refine hTake (i := 18) (v := ?_) rfl (by kernel_rfl) (by kernel_rfl) (by kernel_rfl) (by rfl) ?_ hH ?_
    rotate_left
    · intro W hW; (try dsimp only at hW); go_simp <;> with_reducible rfl
    simp only [Act.put, List.setIfInBounds_toArray, List.set_cons_zero, List.set_cons_succ]
    refine hTake (i := 19) (v := ?_) rfl (by kernel_rfl) (by kernel_rfl) (by kernel_rfl) (by rfl) ?_ hH ?_
    rotate_left
    · intro W hW; (try dsimp only at hW); go_simp <;> with_reducible rfl
    simp only [Act.put, List.setIfInBounds_toArray, List.set_cons_zero, List.set_cons_succ]
    refine hTake (i := 20) (v := ?_) rfl (by kernel_rfl) (by kernel_rfl) (by kernel_rfl) (by rfl) ?_ hH ?_
    rotate_left
    · intro W hW; (try dsimp only at hW); go_simp <;> with_reducible rfl
    simp only [Act.put, List.setIfInBounds_toArray, List.set_cons_zero, List.set_cons_succ]
    refine hTake (i := 21) (v := ?_) rfl (by kernel_rfl) (by kernel_rfl) (by kernel_rfl) (by rfl) ?_ hH ?_
    rotate_left
    · intro W hW; (try dsimp only at hW); go_simp <;> with_reducible rfl
    simp only [Act.put, List.setIfInBounds_toArray, List.set_cons_zero, List.set_cons_succ]
    refine hTake (i := 22) (v := ?_) rfl (by kernel_rfl) (by kernel_rfl) (by kernel_rfl) (by rfl) ?_ hH ?_
    rotate_left
    · intro W hW; (try dsimp only at hW); go_simp <;> with_reducible rfl
    simp only [Act.put, List.setIfInBounds_toArray, List.set_cons_zero, List.set_cons_succ]
    refine hTake (i := 23) (v := ?_) rfl (by kernel_rfl) (by kernel_rfl) (by kernel_rfl) (by rfl) ?_ hH ?_
    rotate_left
    · intro W hW; (try dsimp only at hW); go_simp <;> with_reducible rfl
    simp only [Act.put, List.setIfInBounds_toArray, List.set_cons_zero, List.set_cons_succ]
    refine hTake (i := 24) (v := ?_) rfl (by kernel_rfl) (by kernel_rfl) (by kernel_rfl) (by rfl) ?_ hH ?_
    rotate_left
    · intro W hW; (try dsimp only at hW); go_simp <;> with_reducible rfl
    simp only [Act.put, List.setIfInBounds_toArray, List.set_cons_zero, List.set_cons_succ]
    refine hTake (i := 25) (v := ?_) rfl (by kernel_rfl) (by kernel_rfl) (by kernel_rfl) (by rfl) ?_ hH ?_
    rotate_left
    · intro W hW; (try dsimp only at hW); go_simp <;> with_reducible rfl
    simp only [Act.put, List.setIfInBounds_toArray, List.set_cons_zero, List.set_cons_succ]
    refine hTake (i := 26) (v := ?_) rfl (by kernel_rfl) (by kernel_rfl) (by kernel_rfl) (by rfl) ?_ hH ?_
    rotate_left
    · intro W hW; (try dsimp only at hW); go_simp <;> with_reducible rfl
    simp only [Act.put, List.setIfInBounds_toArray, List.set_cons_zero, List.set_cons_succ]
    refine hTake (i := 27) (v := ?_) rfl (by kernel_rfl) (by kernel_rfl) (by kernel_rfl) (by rfl) ?_ hH ?_
    rotate_left
    · intro W hW; (try dsimp only at hW); go_simp <;> with_reducible rfl
    simp only [Act.put, List.setIfInBounds_toArray, List.set_cons_zero, List.set_cons_succ]
    refine hTake (i := 28) (v := ?_) rfl (by kernel_rfl) (by kernel_rfl) (by kernel_rfl) (by rfl) ?_ hH ?_
    rotate_left
    · intro W hW; (try dsimp only at hW); go_simp <;> with_reducible rfl
    simp only [Act.put, List.setIfInBounds_toArray, List.set_cons_zero, List.set_cons_succ]
    refine hTake (i := 29) (v := ?_) rfl (by kernel_rfl) (by kernel_rfl) (by kernel_rfl) (by rfl) ?_ hH ?_
    rotate_left
    · intro W hW; (try dsimp only at hW); go_simp <;> with_reducible rfl
    simp only [Act.put, List.setIfInBounds_toArray, List.set_cons_zero, List.set_cons_succ]
    refine hTake (i := 30) (v := ?_) rfl (by kernel_rfl) (by kernel_rfl) (by kernel_rfl) (by rfl) ?_ hH ?_
    rotate_left
    · intro W hW; (try dsimp only at hW); go_simp <;> with_reducible rfl
    simp only [Act.put, List.setIfInBounds_toArray, List.set_cons_zero, List.set_cons_succ]
    refine hTake (i := 31) (v := ?_) rfl (by kernel_rfl) (by kernel_rfl) (by kernel_rfl) (by rfl) ?_ hH ?_
    rotate_left
    · intro W hW; (try dsimp only at hW); go_simp <;> with_reducible rfl
    simp only [Act.put, List.setIfInBounds_toArray, List.set_cons_zero, List.set_cons_succ]
    refine hTake (i := 32) (v := ?_) rfl (by kernel_rfl) (by kernel_rfl) (by kernel_rfl) (by rfl) ?_ hH ?_
    rotate_left
    · intro W hW; (try dsimp only at hW); go_simp <;> with_reducible rfl
    simp only [Act.put, List.setIfInBounds_toArray, List.set_cons_zero, List.set_cons_succ]
    refine hTake (i := 33) (v := ?_) rfl (by kernel_rfl) (by kernel_rfl) (by kernel_rfl) (by rfl) ?_ hH ?_
    rotate_left
    · intro W hW; (try dsimp only at hW); go_simp <;> with_reducible rfl
    simp only [Act.put, List.setIfInBounds_toArray, List.set_cons_zero, List.set_cons_succ]
    refine hTake (i := 34) (v := ?_) rfl (by kernel_rfl) (by kernel_rfl) (by kernel_rfl) (by rfl) ?_ hH ?_
    rotate_left
    · intro W hW; (try dsimp only at hW); go_simp <;> with_reducible rfl
    simp only [Act.put, List.setIfInBounds_toArray, List.set_cons_zero, List.set_cons_succ]
    refine hTake (i := 35) (v := ?_) rfl (by kernel_rfl) (by kernel_rfl) (by kernel_rfl) (by rfl) ?_ hH ?_
    rotate_left
    · intro W hW; (try dsimp only at hW); go_simp <;> with_reducible rfl
    simp only [Act.put, List.setIfInBounds_toArray, List.set_cons_zero, List.set_cons_succ]
    refine hTake (i := 36) (v := ?_) rfl (by kernel_rfl) (by kernel_rfl) (by kernel_rfl) (by rfl) ?_ hH ?_
    rotate_left
    · intro W hW; (try dsimp only at hW); go_simp <;> with_reducible rfl
    simp only [Act.put, List.setIfInBounds_toArray, List.set_cons_zero, List.set_cons_succ]
    refine hTake (i := 37) (v := ?_) rfl (by kernel_rfl) (by kernel_rfl) (by kernel_rfl) (by rfl) ?_ hH ?_
    rotate_left
    · intro W hW; (try dsimp only at hW); go_simp <;> with_reducible rfl
    simp only [Act.put, List.setIfInBounds_toArray, List.set_cons_zero, List.set_cons_succ]
    refine hTake (i := 38) (v := ?_) rfl (by kernel_rfl) (by kernel_rfl) (by kernel_rfl) (by rfl) ?_ hH ?_
    rotate_left
    · intro W hW; (try dsimp only at hW); go_simp <;> with_reducible rfl
    simp only [Act.put, List.setIfInBounds_toArray, List.set_cons_zero, List.set_cons_succ]
    refine hTake (i := 39) (v := ?_) rfl (by kernel_rfl) (by kernel_rfl) (by kernel_rfl) (by rfl) ?_ hH ?_
    rotate_left
    · intro W hW; (try dsimp only at hW); go_simp <;> with_reducible rfl
    simp only [Act.put, List.setIfInBounds_toArray, List.set_cons_zero, List.set_cons_succ]
    refine hTake (i := 40) (v := ?_) rfl (by kernel_rfl) (by kernel_rfl) (by kernel_rfl) (by rfl) ?_ hH ?_
    rotate_left
    · intro W hW; (try dsimp only at hW); go_simp <;> with_reducible rfl
    simp only [Act.put, List.setIfInBounds_toArray, List.set_cons_zero, List.set_cons_succ]
    refine hTake (i := 41) (v := ?_) rfl (by kernel_rfl) (by kernel_rfl) (by kernel_rfl) (by rfl) ?_ hH ?_
    rotate_left
    · intro W hW; (try dsimp only at hW); go_simp <;> with_reducible rfl
    simp only [Act.put, List.setIfInBounds_toArray, List.set_cons_zero, List.set_cons_succ]
    refine hTake (i := 42) (v := ?_) rfl (by kernel_rfl) (by kernel_rfl) (by kernel_rfl) (by rfl) ?_ hH ?_
    rotate_left
    · intro W hW; (try dsimp only at hW); go_simp <;> with_reducible rfl
    simp only [Act.put, List.setIfInBounds_toArray, List.set_cons_zero, List.set_cons_succ]
    refine hTake (i := 43) (v := ?_) rfl (by kernel_rfl) (by kernel_rfl) (by kernel_rfl) (by rfl) ?_ hH ?_
    rotate_left
    · intro W hW; (try dsimp only at hW); go_simp <;> with_reducible rfl
    simp only [Act.put, List.setIfInBounds_toArray, List.set_cons_zero, List.set_cons_succ]
    refine hTake (i := 44) (v := ?_) rfl (by kernel_rfl) (by kernel_rfl) (by kernel_rfl) (by rfl) ?_ hH ?_
    rotate_left
    · intro W hW; (try dsimp only at hW); go_simp <;> with_reducible rfl
    simp only [Act.put, List.setIfInBounds_toArray, List.set_cons_zero, List.set_cons_succ]
    refine hTake (i := 45) (v := ?_) rfl (by kernel_rfl) (by kernel_rfl) (by kernel_rfl) (by rfl) ?_ hH ?_
    rotate_left
    · intro W hW; (try dsimp only at hW); go_simp <;> with_reducible rfl
    simp only [Act.put, List.setIfInBounds_toArray, List.set_cons_zero, List.set_cons_succ]
    refine hTake (i := 46) (v := ?_) rfl (by kernel_rfl) (by kernel_rfl) (by kernel_rfl) (by rfl) ?_ hH ?_
    rotate_left
    · intro W hW; (try dsimp only at hW); go_simp <;> with_reducible rfl
    simp only [Act.put, List.setIfInBounds_toArray, List.set_cons_zero, List.set_cons_succ]
    refine hTake (i := 47) (v := ?_) rfl (by kernel_rfl) (by kernel_rfl) (by kernel_rfl) (by rfl) ?_ hH ?_
    rotate_left
    · intro W hW; (try dsimp only at hW); go_simp <;> with_reducible rfl
    simp only [Act.put, List.setIfInBounds_toArray, List.set_cons_zero, List.set_cons_succ]
    refine hTake (i := 48) (v := ?_) rfl (by kernel_rfl) (by kernel_rfl) (by kernel_rfl) (by rfl) ?_ hH ?_
    rotate_left
    · intro W hW; (try dsimp only at hW); go_simp <;> with_reducible rfl
    simp only [Act.put, List.setIfInBounds_toArray, List.set_cons_zero, List.set_cons_succ]
    refine hTake (i := 49) (v := ?_) rfl (by kernel_rfl) (by kernel_rfl) (by kernel_rfl) (by rfl) ?_ hH ?_
    rotate_left
    · intro W hW; (try dsimp only at hW); go_simp <;> with_reducible rfl
    simp only [Act.put, List.setIfInBounds_toArray, List.set_cons_zero, List.set_cons_succ]
    refine hTake (i := 50) (v := ?_) rfl (by kernel_rfl) (by kernel_rfl) (by kernel_rfl) (by rfl) ?_ hH ?_
    rotate_left
    · intro W hW; (try dsimp only at hW); go_simp <;> with_reducible rfl
    simp only [Act.put, List.setIfInBounds_toArray, List.set_cons_zero, List.set_cons_succ]
    refine hTake (i := 51) (v := ?_) rfl (by kernel_rfl) (by kernel_rfl) (by kernel_rfl) (by rfl) ?_ hH ?_
    rotate_left
    · intro W hW; (try dsimp only at hW); go_simp <;> with_reducible rfl
    simp only [Act.put, List.setIfInBounds_toArray, List.set_cons_zero, List.set_cons_succ]
    refine hTake (i := 52) (v := ?_) rfl (by kernel_rfl) (by kernel_rfl) (by kernel_rfl) (by rfl) ?_ hH ?_
    rotate_left
    · intro W hW; (try dsimp only at hW); go_simp <;> with_reducible rfl
    simp only [Act.put, List.setIfInBounds_toArray, List.set_cons_zero, List.set_cons_succ]
    refine hTake (i := 53) (v := ?_) rfl (by kernel_rfl) (by kernel_rfl) (by kernel_rfl) (by rfl) ?_ hH ?_
    rotate_left
    · intro W hW; (try dsimp only at hW); go_simp <;> with_reducible rfl
    simp only [Act.put, List.setIfInBounds_toArray, List.set_cons_zero, List.set_cons_succ]
    refine hTake (i := 54) (v := ?_) rfl (by kernel_rfl) (by kernel_rfl) (by kernel_rfl) (by rfl) ?_ hH ?_
    rotate_left
    · intro W hW; (try dsimp only at hW); go_simp <;> with_reducible rfl
    simp only [Act.put, List.setIfInBounds_toArray, List.set_cons_zero, List.set_cons_succ]
    refine hTake (i := 55) (v := ?_) rfl (by kernel_rfl) (by kernel_rfl) (by kernel_rfl) (by rfl) ?_ hH ?_
    rotate_left
    · intro W hW; (try dsimp only at hW); go_simp <;> with_reducible rfl
    simp only [Act.put, List.setIfInBounds_toArray, List.set_cons_zero, List.set_cons_succ]
    refine hTake (i := 56) (v := ?_) rfl (by kernel_rfl) (by kernel_rfl) (by kernel_rfl) (by rfl) ?_ hH ?_
    rotate_left
    · intro W hW; (try dsimp only at hW); go_simp <;> with_reducible rfl
    simp only [Act.put, List.setIfInBounds_toArray, List.set_cons_zero, List.set_cons_succ]
    refine hTake (i := 57) (v := ?_) rfl (by kernel_rfl) (by kernel_rfl) (by kernel_rfl) (by rfl) ?_ hH ?_
    rotate_left
    · intro W hW; (try dsimp only at hW); go_simp <;> with_reducible rfl
    simp only [Act.put, List.setIfInBounds_toArray, List.set_cons_zero, List.set_cons_succ]
    refine hTake (i := 58) (v := ?_) rfl (by kernel_rfl) (by kernel_rfl) (by kernel_rfl) (by rfl) ?_ hH ?_
    rotate_left
    · intro W hW; (try dsimp only at hW); go_simp <;> with_reducible rfl
    simp only [Act.put, List.setIfInBounds_toArray, List.set_cons_zero, List.set_cons_succ]
    refine hTake (i := 59) (v := ?_) rfl (by kernel_rfl) (by kernel_rfl) (by kernel_rfl) (by rfl) ?_ hH ?_
    rotate_left
    · intro W hW; (try dsimp only at hW); go_simp <;> with_reducible rfl
    simp only [Act.put, List.setIfInBounds_toArray, List.set_cons_zero, List.set_cons_succ]
    refine hTake (i := 60) (v := ?_) rfl (by kernel_rfl) (by kernel_rfl) (by kernel_rfl) (by rfl) ?_ hH ?_
    rotate_left
    · intro W hW; (try dsimp only at hW); go_simp <;> with_reducible rfl
    simp only [Act.put, List.setIfInBounds_toArray, List.set_cons_zero, List.set_cons_succ]
    refine hTake (i := 61) (v := ?_) rfl (by kernel_rfl) (by kernel_rfl) (by kernel_rfl) (by rfl) ?_ hH ?_
    rotate_left
    · intro W hW; (try dsimp only at hW); go_simp <;> with_reducible rfl
    simp only [Act.put, List.setIfInBounds_toArray, List.set_cons_zero, List.set_cons_succ]
    refine hTake (i := 62) (v := ?_) rfl (by kernel_rfl) (by kernel_rfl) (by kernel_rfl) (by rfl) ?_ hH ?_
    rotate_left
    · intro W hW; (try dsimp only at hW); go_simp <;> with_reducible rfl
    simp only [Act.put, List.setIfInBounds_toArray, List.set_cons_zero, List.set_cons_succ]
    refine hTake (i := 63) (v := ?_) rfl (by kernel_rfl) (by kernel_rfl) (by kernel_rfl) (by rfl) ?_ hH ?_
    rotate_left
    · intro W hW; (try dsimp only at hW); go_simp <;> with_reducible rfl
    simp only [Act.put, List.setIfInBounds_toArray, List.set_cons_zero, List.set_cons_succ]
    refine hTake (i := 64) (v := ?_) rfl (by kernel_rfl) (by kernel_rfl) (by kernel_rfl) (by rfl) ?_ hH ?_
    rotate_left
    · intro W hW; (try dsimp only at hW); go_simp <;> with_reducible rfl
    simp only [Act.put, List.setIfInBounds_toArray, List.set_cons_zero, List.set_cons_succ]
    refine hTake (i := 65) (v := ?_) rfl (by kernel_rfl) (by kernel_rfl) (by kernel_rfl) (by rfl) ?_ hH ?_
    rotate_left
    · intro W hW; (try dsimp only at hW); go_simp <;> with_reducible rfl
    simp only [Act.put, List.setIfInBounds_toArray, List.set_cons_zero, List.set_cons_succ]
    refine hTake (i := 66) (v := ?_) rfl (by kernel_rfl) (by kernel_rfl) (by kernel_rfl) (by rfl) ?_ hH ?_
    rotate_left
    · intro W hW; (try dsimp only at hW); go_simp <;> with_reducible rfl
    simp only [Act.put, List.setIfInBounds_toArray, List.set_cons_zero, List.set_cons_succ]
    refine hTake (i := 67) (v := ?_) rfl (by kernel_rfl) (by kernel_rfl) (by kernel_rfl) (by rfl) ?_ hH ?_
    rotate_left
    · intro W hW; (try dsimp only at hW); go_simp <;> with_reducible rfl
    simp only [Act.put, List.setIfInBounds_toArray, List.set_cons_zero, List.set_cons_succ]
    refine hTake (i := 68) (v := ?_) rfl (by kernel_rfl) (by kernel_rfl) (by kernel_rfl) (by rfl) ?_ hH ?_
    rotate_left
    · intro W hW; (try dsimp only at hW); go_simp <;> with_reducible rfl
    simp only [Act.put, List.setIfInBounds_toArray, List.set_cons_zero, List.set_cons_succ]
    refine hTake (i := 69) (v := ?_) rfl (by kernel_rfl) (by kernel_rfl) (by kernel_rfl) (by rfl) ?_ hH ?_
    rotate_left
    · intro W hW; (try dsimp only at hW); go_simp <;> with_reducible rfl
    simp only [Act.put, List.setIfInBounds_toArray, List.set_cons_zero, List.set_cons_succ]
    refine hTake (i := 70) (v := ?_) rfl (by kernel_rfl) (by kernel_rfl) (by kernel_rfl) (by rfl) ?_ hH ?_
    rotate_left
    · intro W hW; (try dsimp only at hW); go_simp <;> with_reducible rfl
    simp only [Act.put, List.setIfInBounds_toArray, List.set_cons_zero, List.set_cons_succ]
    refine hTake (i := 71) (v := ?_) rfl (by kernel_rfl) (by kernel_rfl) (by kernel_rfl) (by rfl) ?_ hH ?_
    rotate_left
    · intro W hW; (try dsimp only at hW); go_simp <;> with_reducible rfl
    simp only [Act.put, List.setIfInBounds_toArray, List.set_cons_zero, List.set_cons_succ]
    refine hTake (i := 72) (v := ?_) rfl (by kernel_rfl) (by kernel_rfl) (by kernel_rfl) (by rfl) ?_ hH ?_
    rotate_left
    · intro W hW; (try dsimp only at hW); go_simp <;> with_reducible rfl
    simp only [Act.put, List.setIfInBounds_toArray, List.set_cons_zero, List.set_cons_succ]
    refine wpAnyH_done (by kernel_rfl) ?_ _
    refine NoPanic.normal ?_
    have b6 := hH.2.2.2.2.2.2.2.2.2.2.2.2.2
    have u1' := hH.2.2.2.2.2.2.2.1
    clear hH x1 x2 y1 y2 v0 v1 u0 u1 u2 k0 k3 k4 j0 lx ly lv lu lr lj
    have o1 := oA.below b6
    have o5 := oC.below b6
    have bE := bF0.trans (b6.mono bF0.size)
    have w1c := u1'
    have lw := lt_of_cell w1c
    go_wp2_with fail
    refine (RO _ o1).mono ?_
    rintro e w7 ⟨a7, c7, rfl, o7, b7⟩
    have hfd7 := fun W => fieldRs1 0 a7 mF c7 W
    go_wp2_with fail
    refine (MF _ _ _ (owns_cells o7)).mono ?_
    rintro e w8 ⟨a8, m8, c8, rfl, hm8, o8, b8⟩
    have b78 := b7.trans (b8.mono b7.size)
    have o5 := o5.below b78
    have bE := bE.trans (b78.mono bE.size)
    have w1c := keep_cell b78 w1c
    have kA8 : Below w8.heap.size w8 (w8.alloc (.cells #[.int .i64 0, .slice a8 m8 c8] 44)) := (Below.refl _ _).alloc (Nat.le_refl _) _
    have hP12 := heap_alloc_new w8 (.cells #[.int .i64 0, .slice a8 m8 c8] 44)
    have w1d := keep_cell kA8 w1c
    have lw := lt_of_cell w1d
    clear o7 b7 b8 b78 hfd7
    go_wp2_with fail
    refine (RU _ _ _ _ ((o5.below kA8).lv hsz)).mono ?_
    rintro e w9 ⟨a9, c9, rfl, o9, b9⟩
    have hfd9 := fun W => fieldRs1 0 a9 mG c9 W
    go_wp2_with fail
    refine (MG _ _ _ (owns_cells o9)).mono ?_
    rintro e w10 ⟨a10, m10, c10, rfl, hm10, o10, b10⟩
    have b910 := b9.trans (b10.mono b9.size)
    have hP12 := block_below b910 hP12
    have k910 := kA8.trans (b910.mono (by simp))
    have o8 := owns_below o8 k910
    have bE := bE.trans (k910.mono bE.size)
    have kA10 : Below w10.heap.size w10 (w10.alloc (.cells #[.int .i64 0, .slice a10 m10 c10] 44)) := (Below.refl _ _).alloc (Nat.le_refl _) _
    have hP13 := heap_alloc_new w10 (.cells #[.int .i64 0, .slice a10 m10 c10] 44)
    have hP12 := block_below kA10 hP12
    obtain ⟨z0, z1⟩ := two_of hP12
    obtain ⟨t0, t1⟩ := two_of hP13
    have lz := lt_of_cell z0
    have LW := fun W h1 h2 => lwRows_any a8 a10 m8 c8 m10 c10 G G W h1 h2 hm8 hm10
    rw [Ch.sameL_self] at LW
    clear o9 b9 b10 b910 hfd9 k910
    go_wp2_with fail
    refine (LW _ (owns_cells (owns_below o8 kA10)) (owns_cells (owns_below o10 kA10))).mono ?_
    rintro e w11 ⟨rfl, b11⟩
    have bF := bE.trans ((kA10.trans (b11.mono (by simp))).mono bE.size)
    go_wp2
    go_ret
    exact ⟨rfl, bF⟩
end Go.Proofs.Ythfanfnbjldddaa


/- Append, of any list that is read (nil too) to any list of one's own (nil too), whatever names the two types bear. -/
namespace Go.Proofs.Ythfanfnbjldddaa
open Go.RowKit

theorem app_types {t tn ty e e' : TypeId} {i : TypeInfo} (ht : Try.prog.underlying t = some (.slice e)) (htn : Try.prog.underlying tn = some (.slice e')) (hi : Try.prog.info? e = some i) (a : Option Addr) (n cp : Nat) (x : Value) (w : World) :
    (Builtin.append_ #[t, tn] ty #[.slice a n cp, x]).run Try.prog w = (Builtin.append_ #[t, t] ty #[.slice a n cp, x]).run Try.prog w := by
  simp [Builtin.append_, run_underlying ht, run_underlying htn, sizeOf, typeInfo, hi]

theorem addr_add (b off j : Nat) : (⟨b, off, none⟩ : Addr).add j = ⟨b, off + j, none⟩ := by
  unfold Addr.add
  split
  · next h0 => subst h0; rfl
  · rfl

theorem run_appX {t tn ty e e' : TypeId} {i : TypeInfo} {z : Value} {size bytes : Nat} (ht : Try.prog.underlying t = some (.slice e)) (htn : Try.prog.underlying tn = some (.slice e')) (hi : Try.prog.info? e = some i) (hz : i.zero = some z)
    (hsize : i.size = size) (hby : i.bytes = bytes) (hzs : z.cells.size = size) (hsz : 0 < size) (hbb : bytes ≤ 1024)
    {w : World} {B : Nat} {v : Value} {n : Nat} {xs : List Value} (hown : w.ownsRow B e size v n xs) {A : Option Addr} {m c : Nat} {news : List Value} (hc : CellsAt w A (m * size) news) (h1 : ∀ u ∈ news, u.oneCell' = true)
    (hn : n + m ≤ 4194304) (hbase : B ≤ w.heap.size) :
    ∃ a' c' w', (Builtin.append_ #[t, tn] ty #[v, .slice A m c]).run Try.prog w = .ok (.slice a' (n + m) c') w' ∧ w'.ownsRow B e size (.slice a' (n + m) c') (n + m) (xs ++ news) ∧ w.grownBy w' v.ownBlock ∧
      ∀ g, (Value.slice a' (n + m) c').ownBlock = some g → v.ownBlock = some g ∨ w.heap.size ≤ g := by
  obtain ⟨av, cv, hv⟩ := owns_shape hown
  subst hv
  rw [app_types ht htn hi]
  cases A with
  | some ad =>
    obtain ⟨v', w', hr, h2, h3, _, h5⟩ := run_append_own_at (P := Try.prog) w B t ty e i z size bytes ht hi hz hsize hby hzs hsz _ n xs hown ad m c news hc.1 (fun j u hj => by
      have hjl : j < news.length := (List.getElem?_eq_some_iff.1 hj).1
      have hl := hc.1
      obtain ⟨b, off, ha, hcc⟩ := hc.2 (by omega)
      simp only [Option.some.injEq] at ha
      subst ha
      rw [addr_add, hcc j (by omega), hj]) h1 (by unfold maxLen; omega) (by
        have := Nat.mul_le_mul hn hbb
        omega) hbase
    obtain ⟨a', c', rfl⟩ := owns_shape h2
    refine ⟨a', c', w', hr, h2, h3, fun g hg => ?_⟩
    rcases h5 with h5 | h5
    · exact .inl (by rw [← h5]; exact hg)
    · right
      rw [h5] at hg
      simp at hg
      omega
  | none =>
    have hm0 : m = 0 := by
      rcases Nat.eq_zero_or_pos m with h | h
      · exact h
      · obtain ⟨b, off, ha, _⟩ := hc.2 (Nat.mul_pos h hsz)
        simp at ha
    subst hm0
    have hne : news = [] := by
      have := hc.1
      rw [Nat.zero_mul] at this
      exact List.length_eq_zero_iff.1 this
    subst hne
    refine ⟨av, cv, w, ?_, by simpa using hown, ⟨rfl, rfl, rfl, Nat.le_refl _, fun _ _ _ => rfl⟩, fun g hg => .inl (by simpa using hg)⟩
    rcases hown.2 with ⟨hv, h0⟩ | ⟨g, cp, cur, hv, _, _, h1, _⟩
    · simp only [Value.slice.injEq] at hv
      obtain ⟨rfl, _, rfl⟩ := hv
      subst h0
      simp [Builtin.append_, run_underlying ht, sizeOf, typeInfo, hi, Builtin.lenOf, Builtin.firstCells]
    · simp only [Value.slice.injEq, true_and] at hv
      obtain ⟨rfl, rfl⟩ := hv
      simp [Builtin.append_, run_underlying ht, sizeOf, typeInfo, hi, Builtin.lenOf, Builtin.firstCells, h1, storeCells]

theorem wpList_appX {ops : Array Oper} {rest : List Oper} {o : Oper} {a : Act} {w : World} {Q : Exit → Act → World → Prop} {t tn e e' : TypeId} {i : TypeInfo} {z : Value} {size bytes : Nat} (ht : Try.prog.underlying t = some (.slice e)) (htn : Try.prog.underlying tn = some (.slice e')) (hi : Try.prog.info? e = some i) (hz : i.zero = some z)
    (hsize : i.size = size) (hby : i.bytes = bytes) (hzs : z.cells.size = size) (hsz : 0 < size) (hbb : bytes ≤ 1024) (s x : Operand)
    (ho : o.op = .call { callee := .builtin .append, args := #[s, x], argTypes := #[t, tn] }) (hgd : o.guard = none)
    (B : Nat) (v : Value) (n : Nat) (xs : List Value) (A : Option Addr) (m c : Nat) (news : List Value) (hs : a.eval s = v) (hx : a.eval x = .slice A m c)
    (hown : w.ownsRow B e size v n xs) (hc : CellsAt w A (m * size) news) (h1 : ∀ u ∈ news, u.oneCell' = true) (hn : n + m ≤ 4194304) (hbase : B ≤ w.heap.size)
    (hK : ∀ a' c' w', w'.ownsRow B e size (.slice a' (n + m) c') (n + m) (xs ++ news) → w.grownBy w' v.ownBlock → (∀ g, (Value.slice a' (n + m) c').ownBlock = some g → v.ownBlock = some g ∨ w.heap.size ≤ g) → wpList Try.prog ops Q rest (a.put o.dst (.slice a' (n + m) c')) w') :
    wpList Try.prog ops Q (o :: rest) a w := by
  obtain ⟨a', c', w', hr, h2, h3, h4⟩ := run_appX (ty := o.type) (c := c) ht htn hi hz hsize hby hzs hsz hbb hown hc h1 hn hbase
  exact Lib.wpList_append_run w hgd s x t tn ho _ _ hs hx _ _ hr (hK a' c' w' h2 h3 h4)

theorem step_appX {ops : Array Oper} {o : Oper} {a : Act} {w : World} {K : Act → World → Prop} {Q : Exit → Act → World → Prop} {E : Prop} {t tn e e' : TypeId} {i : TypeInfo} {z : Value} {size bytes : Nat} (ht : Try.prog.underlying t = some (.slice e)) (htn : Try.prog.underlying tn = some (.slice e')) (hi : Try.prog.info? e = some i) (hz : i.zero = some z)
    (hsize : i.size = size) (hby : i.bytes = bytes) (hzs : z.cells.size = size) (hsz : 0 < size) (hbb : bytes ≤ 1024) (s x : Operand)
    (ho : o.op = .call { callee := .builtin .append, args := #[s, x], argTypes := #[t, tn] }) (hgd : o.guard = none)
    (B : Nat) (v : Value) (n : Nat) (xs : List Value) (A : Option Addr) (m c : Nat) (news : List Value) (hs : a.eval s = v) (hx : a.eval x = .slice A m c)
    (hown : w.ownsRow B e size v n xs) (hc : CellsAt w A (m * size) news) (h1 : ∀ u ∈ news, u.oneCell' = true) (hn : n + m ≤ 4194304) (hbase : B ≤ w.heap.size)
    (hK : ∀ a' c' w', w'.ownsRow B e size (.slice a' (n + m) c') (n + m) (xs ++ news) → w.grownBy w' v.ownBlock → (∀ g, (Value.slice a' (n + m) c').ownBlock = some g → v.ownBlock = some g ∨ w.heap.size ≤ g) → K (a.put o.dst (.slice a' (n + m) c')) w') :
    if Region.wanted o (yielded ops a.tmps) = true then Oper.wp Try.prog o a w K Q else E := by
  have hw : Region.wanted o (yielded ops a.tmps) = true := by simp [Region.wanted, hgd]
  rw [if_pos hw]
  obtain ⟨a', c', w', hr, h2, h3, h4⟩ := run_appX (ty := o.type) (c := c) ht htn hi hz hsize hby hzs hsz hbb hown hc h1 hn hbase
  exact Lib.wp_append_run w s x t tn ho _ _ hs hx _ _ hr (hK a' c' w' h2 h3 h4)
end Go.Proofs.Ythfanfnbjldddaa


/- The draw of FnUndos. -/
namespace Go.Proofs.Ythfanfnbjldddaa
open Go.RowKit

theorem bfcells_one' (rs : List Ch.Bf) : ∀ u ∈ bfcells rs, u.oneCell' = true := by
  intro x hx
  simp only [bfcells, List.mem_flatMap] at hx
  obtain ⟨r, _, hx⟩ := hx
  simp at hx
  rcases hx with rfl | rfl | rfl <;> rfl
theorem bfcells_append (a b : List Ch.Bf) : bfcells (a ++ b) = bfcells a ++ bfcells b := by simp [bfcells]
theorem own_srcB {w w' : World} {B s : Nat} {e : TypeId} {size : Nat} {v : Value} {n : Nat} {xs : List Value} (h : w.ownsRow B e size v n xs) (hg : w.grownBy w' (some s)) (hs : s < B) : w'.ownsRow B e size v n xs :=
  owns_grown h hg (fun g hg' e => by have := (owns_lt h g hg').1; simp at e; omega)
theorem emptyB (w : World) (B : Nat) (e : TypeId) (size : Nat) (hB : B ≤ w.heap.size) : (w.alloc (.cells #[] e)).ownsRow B e size (.slice (some ⟨w.heap.size, 0, none⟩) 0 0) 0 [] :=
  World.ownsRow_lit w #[] 0 hB (by unfold maxLen; omega) (by simp)
theorem own_atB {w : World} {base : Nat} {e : TypeId} {size : Nat} {a : Option Addr} {n c : Nat} {xs : List Value} (h : w.ownsRow base e size (.slice a n c) n xs) (h0 : 0 < n) : ∃ g, a = some ⟨g, 0, none⟩ := by
  rcases h.2 with ⟨hv, h1⟩ | ⟨g, cp, cur, hv, _⟩
  · omega
  · simp only [Value.slice.injEq] at hv; exact ⟨g, hv.1⟩
theorem grSet (w : World) (b o : Nat) (u : Value) : w.grownBy (w.setCell ⟨b, o, none⟩ u) (some b) :=
  ⟨rfl, rfl, rfl, by simp, fun j hj hne => Below.heap_setCell _ _ _ _ (fun e => hne (by rw [e]))⟩
theorem below_one {w w' : World} {B b : Nat} (h : w.grownBy w' (some b)) (hB : B ≤ b) (hs : B ≤ w.heap.size) : Below B w w' :=
  ⟨h.os, h.tape, h.output, h.size, fun j hj => h.block j (by omega) (fun e => by cases e; omega)⟩
theorem owns_otherD {w : World} {base : Nat} {e : TypeId} {size : Nat} {v : Value} {n : Nat} {xs : List Value} (h : w.ownsRow base e size v n xs) {P o : Nat} (hP : ∀ g, v.ownBlock = some g → g ≠ P) (u : Value) : (w.setCell ⟨P, o, none⟩ u).ownsRow base e size v n xs := by
  refine ⟨h.1, ?_⟩
  rcases h.2 with h' | ⟨g, cap, cur, hv, hb, hh, h1, h2, h3, h4⟩
  · exact .inl h'
  · refine .inr ⟨g, cap, cur, hv, hb, ?_, h1, h2, h3, h4⟩
    exact (Below.heap_setCell _ _ _ _ (by show g ≠ P; exact hP g (by rw [hv]; rfl))).trans hh
theorem set_key (bs : List Ch.Bf) (u : Int) (h : 0 < bs.length) : (bfcells bs).set 0 (.int .i64 u) = bfcells (⟨u, (bs.getD 0 Ch.Bf.zero).h, (bs.getD 0 Ch.Bf.zero).v⟩ :: bs.drop 1) := by
  cases bs with
  | nil => simp at h
  | cons b bs => simp [bfcells]
theorem set_rest (bs : List Ch.Bf) (h : 0 < bs.length) : ((bfcells bs).set 1 (.bool false)).set 2 (.int .i64 3) = bfcells (⟨(bs.getD 0 Ch.Bf.zero).k, false, 3⟩ :: bs.drop 1) := by
  cases bs with
  | nil => simp at h
  | cons b bs => simp [bfcells]
/-- Some befores were drawn. -/
def BfPost (q d s : Nat) (a : Option Addr) (n cap k : Nat) (zs : List Int) (w : World) (e : Ending) (w' : World) : Prop :=
  ∃ bs a' m c' k', m ≤ q ∧ e = .returned (.slice a' m c') ∧ w'.ownsRow w.heap.size 32 3 (.slice a' m c') m (bfcells bs) ∧ k' ≤ k + d ∧ Src w' s a n cap k' zs ∧ w.grownBy w' (some s)
theorem befs_len {w : World} {B m c : Nat} {a : Option Addr} {bs : List Ch.Bf} (h : w.ownsRow B 32 3 (.slice a m c) m (bfcells bs)) : m = bs.length := (owns_cells h).bflen.out

set_option linter.unusedSimpArgs false in
set_option maxRecDepth 20000 in
set_option maxHeartbeats 4000000 in
theorem l8Befores_any (s : Nat) (a : Option Addr) (n cap k : Nat) (zs : List Int) (w : World) (h : Src w s a n cap k zs) (hb : IsB zs) (hn : n ≤ 1048580) (hk : k ≤ 200) :
    Calls Try.prog 72 #[.pointer (some ⟨s, 0, none⟩)] w (BfPost 41 40 s a n cap k zs w) := by
  have hsl := h.lt
  obtain ⟨i0, hi0, hz0, hz1, hz2⟩ := info_parts Try.info32
  have oE := emptyB w w.heap.size 32 3 (Nat.le_refl _)
  have kE : Below w.heap.size w (w.alloc (.cells #[] 32)) := (Below.refl _ _).alloc (Nat.le_refl _) _
  have SE := h.below kE hsl
  have GE := gr_below kE (some s)
  go_enter Try.func72, Try.ntmps72
  go_wp2_with fail
  refine (next_any 6 s a n cap k zs _ SE hb hn (by omega) (by omega) (by omega)).mono ?_
  rintro e w1 ⟨⟨cn, hc0, hc1, rfl⟩, S1, G1⟩
  obtain ⟨cnt, rfl⟩ : ∃ c : Nat, cn = (c : Int) := ⟨cn.toNat, by omega⟩
  have o1 := own_srcB oE G1 hsl
  have GG := gr_trans GE G1
  have hcn : cnt ≤ 5 := by omega
  clear oE kE SE GE G1
  go_wp2
  go_loopw [3, 4] (fun q i wr => ∃ (r m : Nat) (a' : Option Addr) (c' kq : Nat) (bs : List Ch.Bf), r ≤ cnt ∧ m + r ≤ 5 ∧ i = .int .i64 r ∧ q = .slice a' m c' ∧ wr.ownsRow w.heap.size 32 3 (.slice a' m c') m (bfcells bs) ∧ kq + 3 * r ≤ k + 1 + 15 ∧ Src wr s a n cap kq zs ∧ w.grownBy wr (some s)) (fun _ i _ => (intOf i).toNat)
  case atStart => exact ⟨cnt, 0, _, _, k + 1, [], Nat.le_refl _, by omega, rfl, rfl, o1, by omega, S1, GG⟩
  case round =>
    clear o1 S1 GG
    obtain ⟨r, m, a', c', kq, bs, hr, hmr, rfl, rfl, own, hkq, Sr, Gr⟩ := hrel
    have hzr := Gr.size
    by_cases hlt : 0 < r
    · have hd0 : (0 : Int) < (r : Int) := by omega
      have hwr : IntKind.i64.wrap ((r : Int) - 1) = ((r - 1 : Nat) : Int) := by rw [IntWalk.i64_in _ ⟨by omega, by omega⟩]; omega
      go_wp2_with fail
      refine (next_any 20 s a n cap kq zs _ Sr hb hn (by omega) (by omega) (by omega)).mono ?_
      rintro e w3 ⟨⟨ky, _, _, rfl⟩, S3, G3⟩
      have o3 := own_srcB own G3 hsl
      have GA := gr_trans Gr G3
      clear own Sr Gr G3
      go_wp2_with fail
      refine (chance_any 2 s a n cap (kq + 1) zs _ S3 hb hn (by omega) (by omega) (by omega)).mono ?_
      rintro e w4 ⟨⟨hd, rfl⟩, S4, G4⟩
      have o4 := own_srcB o3 G4 hsl
      have GB := gr_trans GA G4
      clear o3 S3 GA G4
      have kB : Below w4.heap.size w4 (w4.alloc (.cells #[.int .i64 ky, .bool hd, .int .i64 0] 32)) := (Below.refl _ _).alloc (Nat.le_refl _) _
      have o5 := owns_below o4 kB
      have S5 := S4.below kB S4.lt
      have GC := gr_on GB (kB.mono GB.size)
      have hN := heap_alloc_new w4 (.cells #[.int .i64 ky, .bool hd, .int .i64 0] 32)
      have hsw := S4.lt
      have hz4 := GB.size
      cases hd
      · have kC : Below (w4.alloc (.cells #[.int .i64 ky, .bool false, .int .i64 0] 32)).heap.size (w4.alloc (.cells #[.int .i64 ky, .bool false, .int .i64 0] 32)) ((w4.alloc (.cells #[.int .i64 ky, .bool false, .int .i64 0] 32)).alloc (.cells #[.int .i64 ky, .bool false, .int .i64 0] 32)) := (Below.refl _ _).alloc (Nat.le_refl _) _
        have o6 := owns_below o5 kC
        have S6 := S5.below kC S5.lt
        have GD := gr_on GC (kC.mono GC.size)
        have hC3 := new_bef (w := w4.alloc (.cells #[.int .i64 ky, .bool false, .int .i64 0] 32)) (r := ⟨ky, false, 0⟩) (t := 32) (H := w4.heap.size + 1) (by simp)
        have hb3 : w.heap.size ≤ ((w4.alloc (.cells #[.int .i64 ky, .bool false, .int .i64 0] 32)).alloc (.cells #[.int .i64 ky, .bool false, .int .i64 0] 32)).heap.size := by simp; omega
        go_wp2_with (at_builtin; go_must (refine wpList_appX Try.underlying38 Try.underlying38 hi0 hz0 hz1 hz2 rfl (by omega) (by omega) (.tmp 23) (.tmp 25) ?_ ?_ w.heap.size (.slice a' m c') m (bfcells bs) _ 1 1 (bfcells [⟨ky, false, 0⟩]) ?_ ?_ o6 hC3 (bfcells_one' _) (by omega) hb3 ?_; exact rfl; exact rfl; exact rfl; exact rfl; intro a7 c7 w7 own7 gr7 at7; go_frame))
        go_roundw
        case rel =>
          refine ⟨r - 1, m + 1, a7, c7, kq + 1 + 1, bs ++ [⟨ky, false, 0⟩], by omega, by omega, by go_num, rfl, by rw [bfcells_append]; exact own7, by omega, S6.grown gr7 (fun j hj => by have := (owns_lt o6 j hj).1; omega), ?_⟩
          exact gr_on GD ⟨gr7.os, gr7.tape, gr7.output, gr7.size, fun j hj => gr7.block j (by have := GD.size; omega) (fun e => by have := (owns_lt o6 j e.symm).1; omega)⟩
        case measure => simp [intOf]; omega
      · go_wp2_with fail
        refine (next_any 50 s a n cap (kq + 1 + 1) zs _ S5 hb hn (by omega) (by omega) (by omega)).mono ?_
        rintro e w5 ⟨⟨v, _, _, rfl⟩, S5', G5⟩
        have o5' := own_srcB o5 G5 hsl
        have GC' := gr_trans GC G5
        have hN5 := gr_heap G5 hN (fun e => by have e := Option.some.inj e; omega)
        have lN := (Array.getElem?_eq_some_iff.1 hN5).1
        have L4 := owns_lt o4
        clear o5 S5 GC hN G5 kB o4 S4 GB
        have z5 := GC'.size
        obtain ⟨x0, x1, x2⟩ := row3 hN5
        obtain ⟨f0, f1, f2⟩ := frz3 hN5
        have hN6 := Joins.block_setCell (i := 2) hN5 (.int .i64 v)
        simp at hN6
        have gS : w5.grownBy (w5.setCell ⟨w4.heap.size, 2, none⟩ (.int .i64 v)) (some w4.heap.size) := grSet w5 _ _ _
        have o6 := owns_otherD (P := w4.heap.size) (o := 2) o5' (fun g hg => by have := (L4 g hg).2; omega) (.int .i64 v)
        have S6 := S5'.grown gS (fun r hr => by cases hr; exact hsw)
        have GS := gr_on GC' (below_one (B := w.heap.size) gS (by omega) GC'.size)
        obtain ⟨y0, y1, y2⟩ := row3 hN6
        have ly := lt_of_cell y0
        have kC : Below (w5.setCell ⟨w4.heap.size, 2, none⟩ (.int .i64 v)).heap.size (w5.setCell ⟨w4.heap.size, 2, none⟩ (.int .i64 v)) ((w5.setCell ⟨w4.heap.size, 2, none⟩ (.int .i64 v)).alloc (.cells #[.int .i64 ky, .bool true, .int .i64 v] 32)) := (Below.refl _ _).alloc (Nat.le_refl _) _
        have o7 := owns_below o6 kC
        have S7 := S6.below kC S6.lt
        have GD := gr_on GS (kC.mono GS.size)
        have hC3 := new_bef (w := w5.setCell ⟨w4.heap.size, 2, none⟩ (.int .i64 v)) (r := ⟨ky, true, v⟩) (t := 32) (H := w5.heap.size) (by simp)
        have hb3 : w.heap.size ≤ ((w5.setCell ⟨w4.heap.size, 2, none⟩ (.int .i64 v)).alloc (.cells #[.int .i64 ky, .bool true, .int .i64 v] 32)).heap.size := by simp; omega
        go_wp2_with (at_builtin; go_must (refine wpList_appX Try.underlying38 Try.underlying38 hi0 hz0 hz1 hz2 rfl (by omega) (by omega) (.tmp 23) (.tmp 25) ?_ ?_ w.heap.size (.slice a' m c') m (bfcells bs) _ 1 1 (bfcells [⟨ky, true, v⟩]) ?_ ?_ o7 hC3 (bfcells_one' _) (by omega) hb3 ?_; exact rfl; exact rfl; exact rfl; exact rfl; intro a8 c8 w8 own8 gr8 at8; go_frame))
        go_roundw
        case rel =>
          refine ⟨r - 1, m + 1, a8, c8, kq + 1 + 1 + 1, bs ++ [⟨ky, true, v⟩], by omega, by omega, by go_num, rfl, by rw [bfcells_append]; exact own8, by omega, S7.grown gr8 (fun j hj => by have := (owns_lt o7 j hj).1; omega), ?_⟩
          exact gr_on GD ⟨gr8.os, gr8.tape, gr8.output, gr8.size, fun j hj => gr8.block j (by have := GD.size; omega) (fun e => by have := (owns_lt o7 j e.symm).1; omega)⟩
        case measure => simp [intOf]; omega
    · obtain rfl : r = 0 := by omega
      have hd0 : ¬ (0 : Int) < ((0 : Nat) : Int) := by simp
      by_cases hm0 : 0 < m
      rotate_left
      · obtain rfl : m = 0 := by omega
        go_wp2
        go_ret
        exact ⟨bs, a', 0, c', kq, by omega, rfl, own, by omega, Sr, Gr⟩
      have hdm : (0 : Int) < (m : Int) := by omega
      go_wp2_with fail
      refine (next_any 14 s a n cap kq zs _ Sr hb hn (by omega) (by omega) (by omega)).mono ?_
      rintro e w2 ⟨⟨d, _, _, rfl⟩, S2, G2⟩
      have o2 := own_srcB own G2 hsl
      have GA := gr_trans Gr G2
      have hz2' := GA.size
      have hs2 := S2.lt
      clear own Sr Gr G2
      obtain ⟨g, rfl⟩ := own_atB o2 hm0
      have Lg := owns_lt o2 g rfl
      by_cases hA : d = 0
      · subst hA
        have kA : Below w2.heap.size w2 (w2.alloc (.cells #[.int .i64 (-1), .int .i64 100] 2)) := (Below.refl _ _).alloc (Nat.le_refl _) _
        have oA := owns_below o2 kA
        have GB := gr_on GA (kA.mono GA.size)
        go_wp2_with fail
        refine (pick_any w2.heap.size 2 [-1, 100] s a n cap (kq + 1) zs _ S2.new hb hn (by omega) (heap_alloc_new w2 _) (by omega) rfl (by omega) (by omega)).mono ?_
        rintro e w3 ⟨⟨u, _, rfl⟩, S3, G3⟩
        have o3 := own_srcB oA G3 hsl
        have GC := gr_trans GB G3
        have hf0 := o3.frozenAt 0
        obtain ⟨u0, hd0'⟩ := owns_some o3 (j := 0) (by omega)
        have hst := o3.stored 0 (.int .i64 u)
        have hbl := lt_of_cell hd0'
        go_wp2
        go_ret
        refine ⟨⟨u, (bs.getD 0 Ch.Bf.zero).h, (bs.getD 0 Ch.Bf.zero).v⟩ :: bs.drop 1, _, m, c', kq + 1 + 1, by omega, rfl, ?_, by omega, S3.grown hst.2 (fun j hj => by cases hj; omega), gr_on GC (below_one (B := w.heap.size) hst.2 (by omega) GC.size)⟩
        have e := befs_len o3
        have := hst.1
        rw [show (bfcells bs).set 0 (.int .i64 u) = bfcells (⟨u, (bs.getD 0 Ch.Bf.zero).h, (bs.getD 0 Ch.Bf.zero).v⟩ :: bs.drop 1) from set_key bs u (by omega)] at this
        exact this
      have e0 : (d == 0) = false := by simpa using hA
      by_cases hB : d = 1
      · subst hB
        have hf1 := o2.frozenAt 1
        obtain ⟨u1, hd1'⟩ := owns_some o2 (j := 1) (by omega)
        have hst := o2.stored 1 (.bool false)
        have hf2 := hst.1.frozenAt 2
        obtain ⟨u2, hd2'⟩ := owns_some hst.1 (j := 2) (by omega)
        have hst2 := hst.1.stored 2 (.int .i64 3)
        have hbl := lt_of_cell hd1'
        have hbl2 := lt_of_cell hd2'
        go_wp2
        go_ret
        refine ⟨⟨(bs.getD 0 Ch.Bf.zero).k, false, 3⟩ :: bs.drop 1, _, m, c', kq + 1, by omega, rfl, ?_, by omega, (S2.grown hst.2 (fun j hj => by cases hj; omega)).grown hst2.2 (fun j hj => by cases hj; omega), gr_on (gr_on GA (below_one (B := w.heap.size) hst.2 (by omega) GA.size)) (below_one (B := w.heap.size) hst2.2 (by omega) (by simp; omega))⟩
        have e := befs_len o2
        have := hst2.1
        rw [show ((bfcells bs).set 1 (.bool false)).set 2 (.int .i64 3) = bfcells (⟨(bs.getD 0 Ch.Bf.zero).k, false, 3⟩ :: bs.drop 1) from set_rest bs (by omega)] at this
        exact this
      have e1 : (d == 1) = false := by simpa using hB
      by_cases hC : d = 2
      · subst hC
        go_wp2_with (at_make; refine wpList_make_full _ rfl _ _ 38 rfl w.heap.size 32 i0 (.agg #[.int .i64 0, .bool false, .int .i64 0]) 3 Try.underlying38 hi0 hz0 hz1 .i64 .i64 _ _ 41 rfl rfl rfl rfl (by rw [hz2]; omega) (by unfold maxLen; omega) (by omega) ?_; intro w0 hown0 hgrow0)
        have hB0 : Below w2.heap.size w2 w0 := (Below.refl _ _).grown hgrow0 (Nat.le_refl _) (by simp)
        go_wp2
        go_ret
        refine ⟨List.replicate 41 Ch.Bf.zero, _, 41, 41, kq + 1, by omega, rfl, by rw [made_befs] at hown0; exact hown0, by omega, S2.below hB0 S2.lt, gr_on GA (hB0.mono GA.size)⟩
      have e2 : (d == 2) = false := by simpa using hC
      go_wp2
      go_ret
      exact ⟨bs, _, m, c', kq + 1, by omega, rfl, o2, by omega, S2, GA⟩

set_option linter.unusedSimpArgs false in
set_option maxRecDepth 100000 in
set_option maxHeartbeats 4000000 in
theorem drawUndo_any (a : Option Addr) (n cap : Nat) (zs : List Int) (w : World) (h : CellsAt w a n (bts zs)) (hb : IsB zs) (hn : n ≤ 1048576) :
    Calls Try.prog 22 #[.slice a n cap] w fun e w' => ∃ ls a' m c' tx bs ab mb cb, Ch.bentLv ls ∧ mb ≤ 41 ∧ e = .returned (.tuple #[.slice a' m c', .int .i64 tx, .slice ab mb cb]) ∧ OwnLv w' w.heap.size (.slice a' m c') m ls ∧ w'.ownsRow w.heap.size 32 3 (.slice ab mb cb) mb (bfcells bs) ∧ Below w.heap.size w w' := by
  go_enter Try.func22, Try.ntmps22
  go_wp2_with fail
  refine (l3With_any a n cap zs _ h hb hn).mono ?_
  rintro e w1 ⟨ls, a1, m, c1, key, hbe, rfl, o1, b1⟩
  have hc1 := h.below b1
  have own0 : (w1.alloc (.cells #[.int .u8 3] 5)).ownsRow w1.heap.size 5 1 (.slice (some ⟨w1.heap.size, 0, none⟩) 1 1) 1 [.int .u8 3] := World.ownsRow_lit w1 #[.int .u8 3] 1 (Nat.le_refl _) (by unfold maxLen; omega) rfl
  have bL : Below w1.heap.size w1 (w1.alloc (.cells #[.int .u8 3] 5)) := (Below.refl _ _).alloc (Nat.le_refl _) _
  have hcL := hc1.below bL
  have hsum : 1 + n ≤ 1099511627776 := by omega
  go_wp2_with (at_builtin; go_must (refine wpList_appOy (.tmp 13) (.tmp 14) w1.heap.size w1.heap.size 1 1 [.int .u8 3] a n cap zs hsum ?_ ?_ ?_ ?_ ?_ ?_ ?_ ?_; exact rfl; exact rfl; exact rfl; exact rfl; exact hcL; exact own0; (focus (simp; done)); intro a2 c2 w2 own2 b2))
  have B2 := bL.trans b2
  have hz2 := B2.size
  have hcs : CellsAt w2 a2 (1 + n) (bts (3 :: zs)) := by
    have := owns_cells own2
    rw [Nat.mul_one] at this
    simpa [bts] using this
  have hb3 : IsB (3 :: zs) := by
    intro i
    cases i with
    | zero => simp
    | succ i => simpa using hb i
  have O2 := o1.below B2
  have bE2 := b1.trans (B2.mono b1.size)
  clear own0 bL hcL b2 own2 hc1 B2 b1 o1
  refine (source_any a2 (1 + n) c2 (3 :: zs) w2 hcs).mono ?_
  rintro e w3 ⟨rfl, S3, b3⟩
  have hz3 := S3.lt
  go_wp2_with fail
  refine (pick_any w3.heap.size 4 [1, 2, 3, 0] w2.heap.size a2 (1 + n) c2 0 (3 :: zs) _ S3.new hb3 (by omega) (by omega) (heap_alloc_new w3 _) (by omega) rfl (by omega) (by omega)).mono ?_
  rintro e w4 ⟨⟨tx, _, rfl⟩, S4, G4⟩
  have hz4 := G4.size
  simp at hz4
  have B4 : Below w2.heap.size w2 w4 := (b3.alloc b3.size _).trans (below_gr (B := w2.heap.size) G4 (Nat.le_refl _) (by simp; omega))
  clear S3 b3 G4
  go_wp2_with fail
  refine (l8Befores_any w2.heap.size a2 (1 + n) c2 1 (3 :: zs) w4 S4 hb3 (by omega) (by omega)).mono ?_
  rintro e w5 ⟨bs, ab, mb, cb, k5, hmb, rfl, o5, _, S5, G5⟩
  have B5 := B4.trans (below_gr (B := w2.heap.size) G5 (Nat.le_refl _) (by omega))
  have hz4w : w.heap.size ≤ w4.heap.size := by have := bE2.size; omega
  go_wp2
  exact bodyPost_ret (v := .tuple #[.slice a1 m c1, .int .i64 tx, .slice ab mb cb]) (by simp [results, Try.results22, go_sem]) rfl ⟨ls, a1, m, c1, tx, bs, ab, mb, cb, hbe, hmb, rfl, O2.below B5, owns_base o5 hz4w, bE2.trans (B5.mono bE2.size)⟩
end Go.Proofs.Ythfanfnbjldddaa


/- Plain facts of FnUndos: what is taken back is taken back from the last one to the first. -/
namespace Go.Proofs.Ythfanfnbjldddaa.Ch

/-- What the first of the befores of a key tells. -/
def firstOf (bs : List Bf) (key : Int) (o : Option Int) : Option Int :=
  match bs with
  | [] => o
  | b :: bs => if key = b.k then (if b.h then some b.v else none) else firstOf bs key o
theorem firstOf_at {bs : List Bf} {o : Option Int} {i : Nat} (hi : i < bs.length) (hf : ∀ k, k < i → (bs.getD k Bf.zero).k ≠ (bs.getD i Bf.zero).k) :
    firstOf bs (bs.getD i Bf.zero).k o = if (bs.getD i Bf.zero).h then some (bs.getD i Bf.zero).v else none := by
  induction bs generalizing i with
  | nil => simp at hi
  | cons b bs ih =>
    cases i with
    | zero => simp [firstOf]
    | succ i =>
      have h0 : b.k ≠ (bs.getD i Bf.zero).k := by simpa using hf 0 (by omega)
      have := ih (i := i) (by simpa using hi) (fun k hk => by simpa using hf (k + 1) (by omega))
      simp only [List.getD_cons_succ]
      rw [firstOf, if_neg (fun e => h0 e.symm)]
      exact this
/-- What came of it. -/
structure Undone (tx : Int) (ls : List (List Row)) (bs : List Bf) (ls' : List (List Row)) (rs : List Rec) : Prop where
  good : leavesFault ls' = 0
  len : rs.length = bs.length
  rec_ : ∀ i, i < bs.length → (rs.getD i Rec.zero).ky = (bs.getD (bs.length - 1 - i) Bf.zero).k ∧ (rs.getD i Rec.zero).hs = (bs.getD (bs.length - 1 - i) Bf.zero).h ∧ (rs.getD i Rec.zero).nw = (bs.getD (bs.length - 1 - i) Bf.zero).v ∧ (rs.getD i Rec.zero).fault = 0
  val : ∀ key, Ch.has ls' key = firstOf bs key (Ch.has ls key)
theorem setRec_fine {ls : List (List Row)} {tx key v : Int} {h : Bool} (hg : leavesFault ls = 0) (ht : inB tx 1 999 = true) (hk : inB key 0 99 = true) (hv : inB v 0 9999 = true) (h0 : h = false → v = 0) : (setRec 3 ls tx key h v).fault = 0 := by
  have hb : (bf key (Ch.has ls key)).fault = 0 := bf_fine' hg hk
  unfold setRec
  have hbk := bf_key key (Ch.has ls key)
  generalize bf key (Ch.has ls key) = b at *
  obtain ⟨bk, bh, bv⟩ := b
  simp only at hbk
  subst hbk
  unfold Bf.fault at hb
  simp only at hb
  by_cases h1 : (!inB bk 0 99 || !inB bv 0 9999) = true
  · rw [if_pos h1] at hb; cases hb
  rw [if_neg h1] at hb
  by_cases h2 : (!bh && bv != 0) = true
  · rw [if_pos h2] at hb; cases hb
  simp only [Bool.or_eq_true, Bool.not_eq_true', not_or, Bool.not_eq_false] at h1
  have h2' : bh = false → bv = 0 := fun e => by subst e; simpa using h2
  unfold Rec.fault
  simp only
  have hs3 : sets 3 = true := rfl
  cases h <;> cases bh <;> simp_all [inB]
theorem undone {tx : Int} {ls ls' : List (List Row)} {bs : List Bf} {rs : List Rec} (hg : leavesFault ls = 0) (h : backAll tx ls bs = (0, ls', rs)) : Undone tx ls bs ls' rs := by
  induction bs generalizing ls' rs with
  | nil =>
    have e : backAll tx ls [] = (0, ls, []) := rfl
    rw [e] at h
    simp only [Prod.mk.injEq, true_and] at h
    obtain ⟨rfl, rfl⟩ := h
    exact ⟨hg, rfl, fun i hi => by simp at hi, fun key => rfl⟩
  | cons b bs ih =>
    have e : backAll tx ls (b :: bs) = backOne tx (backAll tx ls bs) b := rfl
    rw [e] at h
    generalize hst : backAll tx ls bs = st at *
    obtain ⟨c, l, r⟩ := st
    by_cases hc : c = 0
    · subst hc
      have IH := ih rfl
      by_cases hs : (setR l tx b.k b.h b.v).1 = 0
      · rw [back_ok hs] at h
        simp only [Prod.mk.injEq, true_and] at h
        obtain ⟨rfl, rfl⟩ := h
        obtain ⟨c2, l2, r2, hR⟩ : ∃ c l' r', setR l tx b.k b.h b.v = (c, l', r') := ⟨_, _, _, rfl⟩
        rw [hR] at hs
        simp only at hs
        subst hs
        obtain ⟨_, ht, hk, hv, hg2, _, h0, hh, _⟩ := sets_tell hR
        rw [hR]
        simp only
        refine ⟨hg2, by simp [IH.len], fun i hi => ?_, fun key => ?_⟩
        · by_cases hil : i < bs.length
          · have h1 := IH.rec_ i hil
            have e1 : (r ++ [setRec 3 l tx b.k b.h b.v]).getD i Rec.zero = r.getD i Rec.zero := by
              simp [List.getD, List.getElem?_append_left (show i < r.length by rw [IH.len]; exact hil)]
            have e2 : (b :: bs).getD ((b :: bs).length - 1 - i) Bf.zero = bs.getD (bs.length - 1 - i) Bf.zero := by
              rw [show (b :: bs).length - 1 - i = (bs.length - 1 - i) + 1 by simp; omega]
              simp
            rw [e1, e2]
            exact h1
          · have hi' : i = bs.length := by simp at hi; omega
            subst hi'
            have e1 : (r ++ [setRec 3 l tx b.k b.h b.v]).getD bs.length Rec.zero = setRec 3 l tx b.k b.h b.v := by
              rw [← IH.len]; simp [List.getD]
            have e2 : (b :: bs).getD ((b :: bs).length - 1 - bs.length) Bf.zero = b := by simp
            rw [e1, e2]
            exact ⟨rfl, rfl, rfl, setRec_fine IH.good ht hk hv h0⟩
        · rw [hh key, firstOf, IH.val key]
      · rw [back_many rfl (by simpa using hs)] at h
        simp only [Prod.mk.injEq] at h
        exact absurd h.1 hs
    · rw [back_code (by simpa using hc)] at h
      simp only [Prod.mk.injEq] at h
      exact absurd h.1 hc
theorem undos_walk {tx : Int} {ls ls' : List (List Row)} {bs : List Bf} {rs : List Rec} (h : undoR ls tx bs = (0, ls', rs)) :
    leavesFault ls = 0 ∧ leavesFault ls' = 0 ∧ befFault bs = 0 ∧ rs.length = bs.length ∧
      (∀ i, i < bs.length → (rs.getD i Rec.zero).ky = (bs.getD (bs.length - 1 - i) Bf.zero).k ∧ (rs.getD i Rec.zero).hs = (bs.getD (bs.length - 1 - i) Bf.zero).h ∧ (rs.getD i Rec.zero).nw = (bs.getD (bs.length - 1 - i) Bf.zero).v ∧ (rs.getD i Rec.zero).fault = 0) ∧
      (∀ i, i < bs.length → (∀ k, k < i → (bs.getD k Bf.zero).k ≠ (bs.getD i Bf.zero).k) → bfOf ls' (bs.getD i Bf.zero).k = bs.getD i Bf.zero) := by
  by_cases hF : setF ls tx bs = 0
  · rw [undoR_ok hF] at h
    have hg : leavesFault ls = 0 := by
      unfold setF at hF
      by_cases h1 : (leavesFault ls != 0) = true
      · rw [if_pos h1] at hF; exact hF
      · simpa using h1
    have hb : befFault bs = 0 := by
      unfold setF at hF
      rw [hg, if_neg (by decide)] at hF
      by_cases h1 : inB tx 1 999 = true
      · rw [if_pos h1] at hF; exact hF
      · rw [if_neg h1] at hF; cases hF
    have U := undone hg h
    refine ⟨hg, U.good, hb, U.len, U.rec_, fun i hi hf => ?_⟩
    have hall := bef_ok (bs := bs) (by
      unfold befFault at hb
      by_cases h1 : 40 < bs.length
      · rw [if_pos h1] at hb; cases hb
      · rw [if_neg h1] at hb; exact hb)
    have hbi := hall (bs.getD i Bf.zero) (by simp [List.getD, hi])
    have hv := U.val (bs.getD i Bf.zero).k
    rw [firstOf_at hi hf] at hv
    generalize bs.getD i Bf.zero = b at *
    obtain ⟨bk, bh, bv⟩ := b
    simp only at hv
    unfold Bf.fault at hbi
    simp only at hbi
    by_cases h1 : (!inB bk 0 99 || !inB bv 0 9999) = true
    · rw [if_pos h1] at hbi; cases hbi
    rw [if_neg h1] at hbi
    by_cases h2 : (!bh && bv != 0) = true
    · rw [if_pos h2] at hbi; cases hbi
    simp only [Bool.or_eq_true, Bool.not_eq_true', not_or, Bool.not_eq_false] at h1
    rw [bfOf_ok (by rw [asked_of U.good h1.1]; rfl)]
    simp only
    rw [hv]
    cases bh
    · have : bv = 0 := by simpa using h2
      subst this; rfl
    · rfl
  · rw [undoR_code rfl (by simpa using hF)] at h
    simp only [Prod.mk.injEq] at h
    exact absurd h.1 hF
end Go.Proofs.Ythfanfnbjldddaa.Ch


/- Walks of the fault of a record: the program's. -/
namespace Go.Proofs.Ythfanfnbjldddaa
open Go.RowKit

/-- The code of a change. -/
def Ch.chg (ky : Int) (hd : Bool) (ol : Int) (hs : Bool) (nw : Int) : Int :=
  if !Ch.inB ky 0 99 || !Ch.inB ol 0 9999 || !Ch.inB nw 0 9999 then 3 else if !hd && ol != 0 || !hs && nw != 0 then 1 else 0

set_option maxHeartbeats 1000000 in
theorem change_any (kd tx ky : Int) (hd : Bool) (ol : Int) (hs : Bool) (nw : Int) (w : World) :
    Calls Try.prog 79 #[.agg #[.int .i64 kd, .int .i64 tx, .int .i64 ky, .bool hd, .int .i64 ol, .bool hs, .int .i64 nw]] w fun e w' => e = .returned (.int .i64 (Ch.chg ky hd ol hs nw)) ∧ Below w.heap.size w w' := by
  unfold Ch.chg
  cases h4 : Ch.inB ky 0 99
  case' true => cases h5 : Ch.inB ol 0 9999
  case' true.true => cases h6 : Ch.inB nw 0 9999
  case' true.true.true => (cases hd <;> cases hs <;> cases h7 : (ol != 0) <;> cases h8 : (nw != 0))
  all_goals
    go_enter Try.func79, Try.ntmps79
    go_wp2_with (first | (go_at_call 75; refine (isKey_any _ _).mono ?_; rintro e w' ⟨rfl, rfl⟩) | (go_at_call 76; refine (isValue_any _ _).mono ?_; rintro e w' ⟨rfl, rfl⟩))
    go_ret
    exact ⟨by simp, (Below.refl _ _).alloc (Nat.le_refl _) _⟩

/-- Two records held against each other. -/
theorem equalRec (kd tx ky : Int) (hd : Bool) (ol : Int) (hs : Bool) (nw kd' tx' ky' : Int) (hd' : Bool) (ol' : Int) (hs' : Bool) (nw' : Int) (w : World) :
    (Op.equalIn 10000 41 (.agg #[.int .i64 kd, .int .i64 tx, .int .i64 ky, .bool hd, .int .i64 ol, .bool hs, .int .i64 nw]) (.agg #[.int .i64 kd', .int .i64 tx', .int .i64 ky', .bool hd', .int .i64 ol', .bool hs', .int .i64 nw'])).run Try.prog w
      = .ok (kd == kd' && tx == tx' && ky == ky' && hd == hd' && ol == ol' && hs == hs' && nw == nw') w := by
  have hS : Try.prog.underlying 41 = some (.struct (Try.prog.fieldsOf 41)) := by kernel_rfl
  have hp : Try.prog.stoodInHeld 41 = false := by kernel_rfl
  have u2 := Try.underlying2
  have a2 := Try.isAgg2
  have z2 := Try.sizeOf2
  have u4 := Try.underlying4
  have a4 := Try.isAgg4
  have z4 := Try.sizeOf4
  rw [show (10000 : Nat) = 9999 + 1 from rfl, run_equalIn_agg w 9999 41 _ _ hS hp]
  simp only [Program.fieldsOf, Try.underlying41]
  go_simp
  cases hd <;> cases hd' <;> cases hs <;> cases hs' <;> by_cases h1 : kd = kd' <;> by_cases h2 : tx = tx' <;> by_cases h3 : ky = ky' <;> by_cases h4 : ol = ol' <;> by_cases h5 : nw = nw' <;> simp [h1, h2, h3, h4, h5]

theorem neqRec (kd tx ky : Int) (hd : Bool) (ol : Int) (hs : Bool) (nw kd' tx' ky' : Int) (hd' : Bool) (ol' : Int) (hs' : Bool) (nw' : Int) (w : World) :
    (binOp .neq 41 (.agg #[.int .i64 kd, .int .i64 tx, .int .i64 ky, .bool hd, .int .i64 ol, .bool hs, .int .i64 nw]) (.agg #[.int .i64 kd', .int .i64 tx', .int .i64 ky', .bool hd', .int .i64 ol', .bool hs', .int .i64 nw'])).run Try.prog w
      = .ok (.bool (!(kd == kd' && tx == tx' && ky == ky' && hd == hd' && ol == ol' && hs == hs' && nw == nw'))) w := by
  rw [run_neq_struct, equalRec]
  rfl
end Go.Proofs.Ythfanfnbjldddaa


/- RecFault of the program, and the law FnExactRecFault. -/
namespace Go.Proofs.Ythfanfnbjldddaa
open Go.RowKit

theorem Ch.fault_of_chg (r : Ch.Rec) (h1 : Ch.inB r.kd 1 5 = true) (h2 : Ch.inB r.tx 1 999 = true) (h3 : Ch.sets r.kd = true) : r.fault = Ch.chg r.ky r.hd r.ol r.hs r.nw := by
  unfold Ch.Rec.fault Ch.chg
  simp [h1, h2, h3]

set_option maxHeartbeats 1000000 in
theorem implRec_any (kd tx ky : Int) (hd : Bool) (ol : Int) (hs : Bool) (nw : Int) (w : World) :
    Calls Try.prog 25 #[.agg #[.int .i64 kd, .int .i64 tx, .int .i64 ky, .bool hd, .int .i64 ol, .bool hs, .int .i64 nw]] w fun e w' => e = .returned (.int .i64 (Ch.Rec.fault ⟨kd, tx, ky, hd, ol, hs, nw⟩)) ∧ Below w.heap.size w w' := by
  by_cases k1 : kd < 1
  · go_enter Try.func25, Try.ntmps25
    go_wp2_with fail
    go_ret
    exact ⟨by simp [Ch.Rec.fault, Ch.inB]; omega, (Below.refl _ _).alloc (Nat.le_refl _) _⟩
  by_cases k2 : 5 < kd
  · go_enter Try.func25, Try.ntmps25
    go_wp2_with fail
    go_ret
    exact ⟨by simp [Ch.Rec.fault, Ch.inB]; omega, (Below.refl _ _).alloc (Nat.le_refl _) _⟩
  have h1 : Hid (Ch.inB kd 1 5 = true) := by show _ = _; simp [Ch.inB]; omega
  cases h2 : Ch.inB tx 1 999
  · go_enter Try.func25, Try.ntmps25
    go_wp2_with (first | (go_at_call 77; refine (isTxn_any _ _).mono ?_; rintro e w' ⟨rfl, rfl⟩))
    go_ret
    exact ⟨by simp [Ch.Rec.fault, h1.out, h2], (Below.refl _ _).alloc (Nat.le_refl _) _⟩
  cases h3 : Ch.sets kd
  · have hne := fun w => neqRec kd tx ky hd ol hs nw kd tx 0 false 0 false 0 w
    simp only [BEq.rfl, Bool.true_and] at hne
    have HC : Hid (Ch.Rec.fault ⟨kd, tx, ky, hd, ol, hs, nw⟩ = if (ky == 0 && hd == false && ol == 0 && hs == false && nw == 0) then 0 else 1) := by
      show _ = _
      unfold Ch.Rec.fault
      simp only [h1.out, h2, h3]
      by_cases a1 : ky = 0 <;> by_cases a2 : ol = 0 <;> by_cases a3 : nw = 0 <;> cases hd <;> cases hs <;> simp [a1, a2, a3]
    cases hb : (ky == 0 && hd == false && ol == 0 && hs == false && nw == 0)
    all_goals
      simp only [hb, Bool.not_true, Bool.not_false] at hne
      rw [HC.out, hb]
      clear hb HC
      go_enter Try.func25, Try.ntmps25
      go_wp2_with (first | (go_at_call 77; refine (isTxn_any _ _).mono ?_; rintro e w' ⟨rfl, rfl⟩) | (go_at_call 78; refine (tells_any _ _).mono ?_; rintro e w' ⟨rfl, rfl⟩))
      go_ret
      exact ⟨rfl, (Below.refl _ _).alloc (Nat.le_refl _) _⟩
  · have HC : Hid (Ch.Rec.fault ⟨kd, tx, ky, hd, ol, hs, nw⟩ = Ch.chg ky hd ol hs nw) := Ch.fault_of_chg ⟨kd, tx, ky, hd, ol, hs, nw⟩ h1.out h2 h3
    rw [HC.out]
    clear HC
    go_enter Try.func25, Try.ntmps25
    go_wp2_with (first | (go_at_call 77; refine (isTxn_any _ _).mono ?_; rintro e w' ⟨rfl, rfl⟩) | (go_at_call 78; refine (tells_any _ _).mono ?_; rintro e w' ⟨rfl, rfl⟩))
    refine (change_any _ _ _ _ _ _ _ _).mono ?_
    rintro e w1 ⟨rfl, b1⟩
    go_wp2
    go_ret
    exact ⟨rfl, below_box b1⟩

end Go.Proofs.Ythfanfnbjldddaa


/- The law FnUndos. -/
namespace Go.Proofs.Ythfanfnbjldddaa
open Go.RowKit

theorem setCell_far {w : World} {P o b i : Nat} {u : Value} (h : b ≠ P) : (w.setCell ⟨P, o, none⟩ u).cell? ⟨b, i, none⟩ = w.cell? ⟨b, i, none⟩ :=
  World.cell?_of_block (a := ⟨b, i, none⟩) (Below.heap_setCell _ _ _ _ h)
theorem fieldUr1 (c : Int) (a : Option Addr) (m k : Nat) (r : Option Addr) (p q : Nat) (W : World) : (Instr.field 29 (.agg #[.int .i64 c, .slice a m k, .slice r p q]) 1).run Try.prog W = .ok (.slice a m k) W := by kernel_rfl
theorem neqBef (k : Int) (g : Bool) (v : Int) (w : World) : (binOp .neq 32 (.agg #[.int .i64 k, .bool g, .int .i64 v]) (.agg #[.int .i64 k, .bool g, .int .i64 v])).run Try.prog w = .ok (.bool false) w := by
  have hS : Try.prog.underlying 32 = some (.struct (Try.prog.fieldsOf 32)) := by kernel_rfl
  have hp : Try.prog.stoodInHeld 32 = false := by kernel_rfl
  have u2 := Try.underlying2
  have a2 := Try.isAgg2
  have z2 := Try.sizeOf2
  have u4 := Try.underlying4
  have a4 := Try.isAgg4
  have z4 := Try.sizeOf4
  rw [run_neq_struct, show (10000 : Nat) = 9999 + 1 from rfl, run_equalIn_agg w 9999 32 _ _ hS hp]
  simp only [Program.fieldsOf, Try.underlying32]
  go_simp

set_option linter.unusedSimpArgs false in
set_option maxRecDepth 100000 in
set_option maxHeartbeats 16000000 in
theorem lawUndos_any (a : Option Addr) (n cap : Nat) (zs : List Int) (w : World) (h : CellsAt w a n (bts zs)) (hb : IsB zs) :
    Calls Try.prog 4 #[.slice a n cap] w fun e w' => e = .returned (.bool true) ∧ Below w.heap.size w w' := by
  by_cases hbig : 1048576 < n
  · have hd : decide ((1048576 : Int) < (n : Int)) = true := by simp; omega
    have BI := fun W => big_any a n cap W
    rw [hd] at BI
    go_enter Try.func4, Try.ntmps4
    go_wp2_with fail
    refine (BI _).mono ?_
    rintro e w' ⟨rfl, rfl⟩
    go_wp2
    go_ret
    exact ⟨rfl, Below.refl _ _⟩
  have hn : n ≤ 1048576 := by omega
  have hd : decide ((1048576 : Int) < (n : Int)) = false := by simp; omega
  have BI := fun W => big_any a n cap W
  rw [hd] at BI
  clear hbig
  go_enter Try.func4, Try.ntmps4
  go_wp2_with fail
  refine (BI _).mono ?_
  rintro e w' ⟨rfl, hw'⟩
  obtain rfl := hw'.symm
  go_wp2_with fail
  refine (drawUndo_any a n cap zs _ h hb hn).mono ?_
  rintro e w1 ⟨ls, a1, n1, c1, tx, bs, ab, mb, cb, hbe, hmb, rfl, o1, ob, b1⟩
  have hs : Ch.lvSize ls ≤ 1048576 := by have := hbe.1; omega
  have hsa := small_at hs
  have hmb2 : mb ≤ 1048576 := by omega
  have II := implUndoAll_any a1 n1 c1 tx ab mb cb ls bs w1 (o1.at hsa) hs (owns_cells ob) hmb2
  have SS := fun (W : World) (hW : OwnLv W w.heap.size (.slice a1 n1 c1) n1 ls) (hB : W.ownsRow w.heap.size 32 3 (.slice ab mb cb) mb (bfcells bs)) => specUndoAll_any a1 n1 c1 tx ab mb cb ls bs W (OwnLv.at hW hsa) hs (owns_cells hB) hmb2
  obtain ⟨c, ls', rs, hR⟩ : ∃ c ls' rs, Hid (Ch.undoR ls tx bs = (c, ls', rs)) := ⟨_, _, _, rfl⟩
  rw [hR.out] at II SS
  simp only at II SS
  have HLB : Hid (mb = bs.length) := befs_len ob
  clear hbe
  go_wp2_with fail
  refine II.mono ?_
  rintro e w2 ⟨a2, m2, c2, r2, p2, q2, rfl, o2, b2⟩
  have bE := b1.trans (b2.mono b1.size)
  have o1 := o1.below b2
  have ob := owns_below ob b2
  have bA2 : ∀ o, Below w2.heap.size w2 (w2.alloc o) := fun o => (Below.refl _ _).alloc (Nat.le_refl _) _
  clear II b1 b2
  by_cases hc0 : c = 0
  rotate_left
  · have hc : (c != 0) = true := by simpa using hc0
    have hcc : (c == c) = true := by simp
    clear hc0 hR
    go_wp2
    refine wp_region_noPanic ?_
    refine wp_region_held_drew (S := fun W' => W'.cell? ⟨w2.heap.size, 0, none⟩ = some (.int .i64 c) ∧ Below w2.heap.size w2 W') (by kernel_rfl) (⟨by simp [go_sem], (bA2 _).drew⟩) (fun hH => ?_)
    refine hTake (i := 0) (v := ?_) rfl (by kernel_rfl) (by kernel_rfl) (by kernel_rfl) (by rfl) ?_ hH ?_
    rotate_left
    · intro W hW; (try dsimp only at hW); go_simp <;> with_reducible rfl
    simp only [Act.put, List.setIfInBounds_toArray, List.set_cons_zero, List.set_cons_succ]
    refine hTake (i := 1) (v := ?_) rfl (by kernel_rfl) (by kernel_rfl) (by kernel_rfl) (by rfl) ?_ hH ?_
    rotate_left
    · intro W hW; (try dsimp only at hW); go_simp <;> with_reducible rfl
    simp only [Act.put, List.setIfInBounds_toArray, List.set_cons_zero, List.set_cons_succ]
    refine hTake (i := 2) (v := ?_) rfl (by kernel_rfl) (by kernel_rfl) (by kernel_rfl) (by rfl) ?_ hH ?_
    rotate_left
    · intro W hW; (try dsimp only at hW); go_simp <;> with_reducible rfl
    simp only [Act.put, List.setIfInBounds_toArray, List.set_cons_zero, List.set_cons_succ]
    refine hTake (i := 5) (v := ?_) rfl (by kernel_rfl) (by kernel_rfl) (by kernel_rfl) (by rfl) ?_ hH ?_
    rotate_left
    · intro W hW; (try dsimp only at hW); go_simp <;> with_reducible rfl
    simp only [Act.put, List.setIfInBounds_toArray, List.set_cons_zero, List.set_cons_succ]
    refine hTake (i := 6) (v := ?_) rfl (by kernel_rfl) (by kernel_rfl) (by kernel_rfl) (by rfl) ?_ hH ?_
    rotate_left
    · intro W hW; (try dsimp only at hW); go_simp <;> with_reducible rfl
    simp only [Act.put, List.setIfInBounds_toArray, List.set_cons_zero, List.set_cons_succ]
    refine wpAnyH_ready (rs := [3]) (by kernel_rfl) (by simp) ?_
    refine AllReadyH.cons rfl (fun K hK => ?_) AllReadyH.nil
    go_simp
    refine (SS _ (o1.below hH.2) (owns_below ob hH.2)).mono ?_
    rintro e w3 ⟨a3, m3, c3, r3, p3, q3, rfl, o3, b3⟩
    have hfd := fun W => fieldUr c a3 m3 c3 r3 p3 q3 W
    go_wp2_with fail
    refine hK.out _ _ ?_ (fun hH => ?_)
    · exact ⟨keep_cell b3 hH.1, hH.2.trans (b3.mono hH.2.size)⟩
    clear hK K
    refine hTake (i := 4) (v := ?_) rfl (by kernel_rfl) (by kernel_rfl) (by kernel_rfl) (by rfl) ?_ hH ?_
    rotate_left
    · intro W hW; (try dsimp only at hW); go_simp <;> with_reducible rfl
    simp only [Act.put, List.setIfInBounds_toArray, List.set_cons_zero, List.set_cons_succ]
    refine hTake (i := 7) (v := ?_) rfl (by kernel_rfl) (by kernel_rfl) (by kernel_rfl) (by rfl) ?_ hH ?_
    rotate_left
    · intro W hW; (try dsimp only at hW); go_simp <;> with_reducible rfl
    simp only [Act.put, List.setIfInBounds_toArray, List.set_cons_zero, List.set_cons_succ]
    refine hTake (i := 8) (v := ?_) rfl (by kernel_rfl) (by kernel_rfl) (by kernel_rfl) (by rfl) ?_ hH ?_
    rotate_left
    · intro W hW; (try dsimp only at hW); go_simp <;> with_reducible rfl
    simp only [Act.put, List.setIfInBounds_toArray, List.set_cons_zero, List.set_cons_succ]
    refine wpAnyH_done (by kernel_rfl) ?_ _
    refine NoPanic.normal ?_
    have b6 := hH.2
    clear hH
    go_wp2
    go_ret
    exact ⟨rfl, bE.trans (b6.mono bE.size)⟩
  subst hc0
  obtain ⟨hg, hg', hbf, hlen, hrec, hfirst⟩ := Ch.undos_walk hR.out
  have hsz := Ch.good_size hg'
  have hp2 : p2 = mb := by have := o2.len.2; have := HLB.out; omega
  subst hp2
  have LF := fun (W : World) (hW : OwnU W w1.heap.size (.slice a2 m2 c2) m2 ls' (.slice r2 p2 q2) p2 rs) => implLeaves_any a2 m2 c2 ls' W (OwnU.lv hW hsz) hsz
  rw [hg'] at LF
  have BF := fun (W : World) (hB : W.ownsRow w.heap.size 32 3 (.slice ab p2 cb) p2 (bfcells bs)) => implBefores_any ab p2 cb bs W (owns_cells hB) hmb2
  rw [hbf] at BF
  obtain ⟨mG, hmG⟩ : ∃ m, Hid (ls'.flatten.length = m) := ⟨_, rfl⟩
  have RU := fun (W : World) (A : Option Addr) (m c : Nat) (hW : LvAt W A m ls') => implRowsOf_ok A m c ls' W hW hsz hg' mG hmG
  have hmGb : mG ≤ 1048576 := by have := hmG.out; have := Ch.flat_240 hg'; omega
  have SR := fun (W : World) (A : Option Addr) (m c : Nat) (hW : LvAt W A m ls') => specRowsOf_any A m c ls' W hW hsz
  have hRR : Ch.rowsR ls' = (0, ls'.flatten) := by unfold Ch.rowsR; rw [hg']; rfl
  rw [hRR] at SR
  simp only at SR
  have HREC := hid hrec
  have HFST := hid hfirst
  have hne : ((p2 : Int) != (p2 : Int)) = false := by simp
  clear hR hg hg' hbf hrec hfirst hRR hmG hlen
  have hP0 := heap_alloc_new w2 (.cells #[.int .i64 0, .slice a2 m2 c2, .slice r2 p2 q2] 29)
  have hB0 := bA2 (.cells #[.int .i64 0, .slice a2 m2 c2, .slice r2 p2 q2] 29)
  obtain ⟨x0, x1, x2⟩ := undo_box hP0
  clear bA2
  go_wp2_with fail
  refine (LF _ (o2.below hB0)).mono ?_
  rintro e w3 ⟨rfl, b3⟩
  have hP1 := block_below b3 hP0
  have hB1 := hB0.trans (b3.mono hB0.size)
  clear x0 x1 x2 b3
  go_wp2_with fail
  refine (BF _ (owns_below ob hB1)).mono ?_
  rintro e w4 ⟨rfl, b4⟩
  have hP2 := block_below b4 hP1
  have hB2 := hB1.trans (b4.mono hB1.size)
  clear hP0 hP1 hB0 hB1
  clear b4 BF LF
  go_wp2
  go_loopw [8] (fun i wr => ∃ (k : Nat), k ≤ p2 ∧ i = .int .i64 k ∧ wr.heap[w2.heap.size]? = some (.cells #[.int .i64 0, .slice a2 m2 c2, .slice r2 p2 q2] 29 (0, 0)) ∧ Below w2.heap.size w2 wr) (fun i _ => p2 - (intOf i).toNat)
  case atStart => exact ⟨0, Nat.zero_le _, rfl, hP2, hB2⟩
  case round =>
    clear hP2 hB2
    obtain ⟨k, hk, rfl, hP, hB⟩ := hrel
    obtain ⟨x0, x1, x2⟩ := undo_box hP
    have lx := lt_of_cell x0
    by_cases hlt : k < p2
    · obtain ⟨n1', hn1⟩ : ∃ q, Hid (p2 - 1 = q) := ⟨_, rfl⟩
      obtain ⟨j, hj⟩ : ∃ q, Hid (n1' - k = q) := ⟨_, rfl⟩
      have hw1 : IntKind.i64.wrap ((p2 : Int) - 1) = (n1' : Int) := by rw [IntWalk.i64_in _ ⟨by omega, by omega⟩]; have := hn1.out; omega
      have hw2 : IntKind.i64.wrap ((n1' : Int) - (k : Int)) = (j : Int) := by rw [IntWalk.i64_in _ ⟨by have := hn1.out; omega, by have := hn1.out; omega⟩]; have := hn1.out; have := hj.out; omega
      have hjl : j < p2 := by have := hn1.out; have := hj.out; omega
      have HRK := hid (HREC.out k (by have := HLB.out; omega))
      rw [show bs.length - 1 - k = j by have := hn1.out; have := hj.out; have := HLB.out; omega] at HRK
      obtain ⟨rb, ro, hr2, k0, k1, k2, k3, k4, k5, k6⟩ := ((o2.below hB).rc).rec hlt
      obtain ⟨bb, bo, hab, e0, e1, e2⟩ := (owns_cells (owns_below ob hB)).bef hjl
      subst hr2
      subst hab
      generalize rs.getD k Ch.Rec.zero = rr at *
      generalize bs.getD j Ch.Bf.zero = br at *
      obtain ⟨kd, tx2, ky, hd2, ol, hs2, nw⟩ := rr
      obtain ⟨bk, bh, bv⟩ := br
      simp only at k0 k1 k2 k3 k4 k5 k6 e0 e1 e2 HRK
      obtain ⟨q1, q2', q3, q4⟩ := HRK.out
      subst q1
      subst q2'
      subst q3
      have RF := fun W => implRec_any kd tx2 ky hd2 ol hs2 nw W
      rw [q4] at RF
      have lr := lt_of_cell k0
      have le := lt_of_cell e0
      have hc1 : (ky != ky) = false := by simp
      have hc2 : (hs2 != hs2) = false := by simp
      have hc3 : (nw != nw) = false := by simp
      clear HRK q4 hn1 hj
      go_wp2_with fail
      refine wp_region_noPanic ?_
      refine wp_region_held_drew (S := fun W' => W'.cell? ⟨w2.heap.size, 2, none⟩ = some (.slice (some ⟨rb, ro, none⟩) p2 q2) ∧ W'.cell? ⟨rb, ro + k * 7, none⟩ = some (.int .i64 kd) ∧ W'.cell? ⟨rb, ro + k * 7 + 1, none⟩ = some (.int .i64 tx2) ∧ W'.cell? ⟨rb, ro + k * 7 + 2, none⟩ = some (.int .i64 ky) ∧ W'.cell? ⟨rb, ro + k * 7 + 3, none⟩ = some (.bool hd2) ∧ W'.cell? ⟨rb, ro + k * 7 + 4, none⟩ = some (.int .i64 ol) ∧ W'.cell? ⟨rb, ro + k * 7 + 5, none⟩ = some (.bool hs2) ∧ W'.cell? ⟨rb, ro + k * 7 + 6, none⟩ = some (.int .i64 nw) ∧ W'.cell? ⟨bb, bo + j * 3, none⟩ = some (.int .i64 ky) ∧ W'.cell? ⟨bb, bo + j * 3 + 1, none⟩ = some (.bool hs2) ∧ W'.cell? ⟨bb, bo + j * 3 + 2, none⟩ = some (.int .i64 nw) ∧ Below w2.heap.size w2 W') (by kernel_rfl) (⟨x2, k0, k1, k2, k3, k4, k5, k6, e0, e1, e2, hB.drew⟩) (fun hH => ?_)
      refine hTake (i := 0) (v := ?_) rfl (by kernel_rfl) (by kernel_rfl) (by kernel_rfl) (by rfl) ?_ hH ?_
      rotate_left
      · intro W hW; (try dsimp only at hW); go_simp <;> with_reducible rfl
      simp only [Act.put, List.setIfInBounds_toArray, List.set_cons_zero, List.set_cons_succ]
      refine hTake (i := 1) (v := ?_) rfl (by kernel_rfl) (by kernel_rfl) (by kernel_rfl) (by rfl) ?_ hH ?_
      rotate_left
      · intro W hW; (try dsimp only at hW); go_simp <;> with_reducible rfl
      simp only [Act.put, List.setIfInBounds_toArray, List.set_cons_zero, List.set_cons_succ]
      refine hTake (i := 2) (v := ?_) rfl (by kernel_rfl) (by kernel_rfl) (by kernel_rfl) (by rfl) ?_ hH ?_
      rotate_left
      · intro W hW; (try dsimp only at hW); go_simp <;> with_reducible rfl
      simp only [Act.put, List.setIfInBounds_toArray, List.set_cons_zero, List.set_cons_succ]
      refine hTake (i := 3) (v := ?_) rfl (by kernel_rfl) (by kernel_rfl) (by kernel_rfl) (by rfl) ?_ hH ?_
      rotate_left
      · intro W hW; (try dsimp only at hW); go_simp <;> with_reducible rfl
      simp only [Act.put, List.setIfInBounds_toArray, List.set_cons_zero, List.set_cons_succ]
      refine hTake (i := 4) (v := ?_) rfl (by kernel_rfl) (by kernel_rfl) (by kernel_rfl) (by rfl) ?_ hH ?_
      rotate_left
      · intro W hW; (try dsimp only at hW); go_simp <;> with_reducible rfl
      simp only [Act.put, List.setIfInBounds_toArray, List.set_cons_zero, List.set_cons_succ]
      refine hTake (i := 5) (v := ?_) rfl (by kernel_rfl) (by kernel_rfl) (by kernel_rfl) (by rfl) ?_ hH ?_
      rotate_left
      · intro W hW; (try dsimp only at hW); go_simp <;> with_reducible rfl
      simp only [Act.put, List.setIfInBounds_toArray, List.set_cons_zero, List.set_cons_succ]
      refine hTake (i := 6) (v := ?_) rfl (by kernel_rfl) (by kernel_rfl) (by kernel_rfl) (by rfl) ?_ hH ?_
      rotate_left
      · intro W hW; (try dsimp only at hW); go_simp <;> with_reducible rfl
      simp only [Act.put, List.setIfInBounds_toArray, List.set_cons_zero, List.set_cons_succ]
      refine hTake (i := 7) (v := ?_) rfl (by kernel_rfl) (by kernel_rfl) (by kernel_rfl) (by rfl) ?_ hH ?_
      rotate_left
      · intro W hW; (try dsimp only at hW); go_simp <;> with_reducible rfl
      simp only [Act.put, List.setIfInBounds_toArray, List.set_cons_zero, List.set_cons_succ]
      refine hTake (i := 8) (v := ?_) rfl (by kernel_rfl) (by kernel_rfl) (by kernel_rfl) (by rfl) ?_ hH ?_
      rotate_left
      · intro W hW; (try dsimp only at hW); go_simp <;> with_reducible rfl
      simp only [Act.put, List.setIfInBounds_toArray, List.set_cons_zero, List.set_cons_succ]
      refine hTake (i := 9) (v := ?_) rfl (by kernel_rfl) (by kernel_rfl) (by kernel_rfl) (by rfl) ?_ hH ?_
      rotate_left
      · intro W hW; (try dsimp only at hW); go_simp <;> with_reducible rfl
      simp only [Act.put, List.setIfInBounds_toArray, List.set_cons_zero, List.set_cons_succ]
      refine hTake (i := 10) (v := ?_) rfl (by kernel_rfl) (by kernel_rfl) (by kernel_rfl) (by rfl) ?_ hH ?_
      rotate_left
      · intro W hW; (try dsimp only at hW); go_simp <;> with_reducible rfl
      simp only [Act.put, List.setIfInBounds_toArray, List.set_cons_zero, List.set_cons_succ]
      refine hTake (i := 11) (v := ?_) rfl (by kernel_rfl) (by kernel_rfl) (by kernel_rfl) (by rfl) ?_ hH ?_
      rotate_left
      · intro W hW; (try dsimp only at hW); go_simp <;> with_reducible rfl
      simp only [Act.put, List.setIfInBounds_toArray, List.set_cons_zero, List.set_cons_succ]
      refine hTake (i := 12) (v := ?_) rfl (by kernel_rfl) (by kernel_rfl) (by kernel_rfl) (by rfl) ?_ hH ?_
      rotate_left
      · intro W hW; (try dsimp only at hW); go_simp <;> with_reducible rfl
      simp only [Act.put, List.setIfInBounds_toArray, List.set_cons_zero, List.set_cons_succ]
      refine hTake (i := 13) (v := ?_) rfl (by kernel_rfl) (by kernel_rfl) (by kernel_rfl) (by rfl) ?_ hH ?_
      rotate_left
      · intro W hW; (try dsimp only at hW); go_simp <;> with_reducible rfl
      simp only [Act.put, List.setIfInBounds_toArray, List.set_cons_zero, List.set_cons_succ]
      refine hTake (i := 14) (v := ?_) rfl (by kernel_rfl) (by kernel_rfl) (by kernel_rfl) (by rfl) ?_ hH ?_
      rotate_left
      · intro W hW; (try dsimp only at hW); go_simp <;> with_reducible rfl
      simp only [Act.put, List.setIfInBounds_toArray, List.set_cons_zero, List.set_cons_succ]
      refine hTake (i := 15) (v := ?_) rfl (by kernel_rfl) (by kernel_rfl) (by kernel_rfl) (by rfl) ?_ hH ?_
      rotate_left
      · intro W hW; (try dsimp only at hW); go_simp <;> with_reducible rfl
      simp only [Act.put, List.setIfInBounds_toArray, List.set_cons_zero, List.set_cons_succ]
      refine hTake (i := 16) (v := ?_) rfl (by kernel_rfl) (by kernel_rfl) (by kernel_rfl) (by rfl) ?_ hH ?_
      rotate_left
      · intro W hW; (try dsimp only at hW); go_simp <;> with_reducible rfl
      simp only [Act.put, List.setIfInBounds_toArray, List.set_cons_zero, List.set_cons_succ]
      refine hTake (i := 17) (v := ?_) rfl (by kernel_rfl) (by kernel_rfl) (by kernel_rfl) (by rfl) ?_ hH ?_
      rotate_left
      · intro W hW; (try dsimp only at hW); go_simp <;> with_reducible rfl
      simp only [Act.put, List.setIfInBounds_toArray, List.set_cons_zero, List.set_cons_succ]
      refine hTake (i := 18) (v := ?_) rfl (by kernel_rfl) (by kernel_rfl) (by kernel_rfl) (by rfl) ?_ hH ?_
      rotate_left
      · intro W hW; (try dsimp only at hW); go_simp <;> with_reducible rfl
      simp only [Act.put, List.setIfInBounds_toArray, List.set_cons_zero, List.set_cons_succ]
      refine hTake (i := 19) (v := ?_) rfl (by kernel_rfl) (by kernel_rfl) (by kernel_rfl) (by rfl) ?_ hH ?_
      rotate_left
      · intro W hW; (try dsimp only at hW); go_simp <;> with_reducible rfl
      simp only [Act.put, List.setIfInBounds_toArray, List.set_cons_zero, List.set_cons_succ]
      refine hTake (i := 20) (v := ?_) rfl (by kernel_rfl) (by kernel_rfl) (by kernel_rfl) (by rfl) ?_ hH ?_
      rotate_left
      · intro W hW; (try dsimp only at hW); go_simp <;> with_reducible rfl
      simp only [Act.put, List.setIfInBounds_toArray, List.set_cons_zero, List.set_cons_succ]
      refine hTake (i := 21) (v := ?_) rfl (by kernel_rfl) (by kernel_rfl) (by kernel_rfl) (by rfl) ?_ hH ?_
      rotate_left
      · intro W hW; (try dsimp only at hW); go_simp <;> with_reducible rfl
      simp only [Act.put, List.setIfInBounds_toArray, List.set_cons_zero, List.set_cons_succ]
      refine hTake (i := 22) (v := ?_) rfl (by kernel_rfl) (by kernel_rfl) (by kernel_rfl) (by rfl) ?_ hH ?_
      rotate_left
      · intro W hW; (try dsimp only at hW); go_simp <;> with_reducible rfl
      simp only [Act.put, List.setIfInBounds_toArray, List.set_cons_zero, List.set_cons_succ]
      refine hTake (i := 23) (v := ?_) rfl (by kernel_rfl) (by kernel_rfl) (by kernel_rfl) (by rfl) ?_ hH ?_
      rotate_left
      · intro W hW; (try dsimp only at hW); go_simp <;> with_reducible rfl
      simp only [Act.put, List.setIfInBounds_toArray, List.set_cons_zero, List.set_cons_succ]
      refine hTake (i := 24) (v := ?_) rfl (by kernel_rfl) (by kernel_rfl) (by kernel_rfl) (by rfl) ?_ hH ?_
      rotate_left
      · intro W hW; (try dsimp only at hW); go_simp <;> with_reducible rfl
      simp only [Act.put, List.setIfInBounds_toArray, List.set_cons_zero, List.set_cons_succ]
      refine hTake (i := 25) (v := ?_) rfl (by kernel_rfl) (by kernel_rfl) (by kernel_rfl) (by rfl) ?_ hH ?_
      rotate_left
      · intro W hW; (try dsimp only at hW); go_simp <;> with_reducible rfl
      simp only [Act.put, List.setIfInBounds_toArray, List.set_cons_zero, List.set_cons_succ]
      refine hTake (i := 26) (v := ?_) rfl (by kernel_rfl) (by kernel_rfl) (by kernel_rfl) (by rfl) ?_ hH ?_
      rotate_left
      · intro W hW; (try dsimp only at hW); go_simp <;> with_reducible rfl
      simp only [Act.put, List.setIfInBounds_toArray, List.set_cons_zero, List.set_cons_succ]
      refine hTake (i := 27) (v := ?_) rfl (by kernel_rfl) (by kernel_rfl) (by kernel_rfl) (by rfl) ?_ hH ?_
      rotate_left
      · intro W hW; (try dsimp only at hW); go_simp <;> with_reducible rfl
      simp only [Act.put, List.setIfInBounds_toArray, List.set_cons_zero, List.set_cons_succ]
      refine hTake (i := 28) (v := ?_) rfl (by kernel_rfl) (by kernel_rfl) (by kernel_rfl) (by rfl) ?_ hH ?_
      rotate_left
      · intro W hW; (try dsimp only at hW); go_simp <;> with_reducible rfl
      simp only [Act.put, List.setIfInBounds_toArray, List.set_cons_zero, List.set_cons_succ]
      refine hTake (i := 29) (v := ?_) rfl (by kernel_rfl) (by kernel_rfl) (by kernel_rfl) (by rfl) ?_ hH ?_
      rotate_left
      · intro W hW; (try dsimp only at hW); go_simp <;> with_reducible rfl
      simp only [Act.put, List.setIfInBounds_toArray, List.set_cons_zero, List.set_cons_succ]
      refine hTake (i := 30) (v := ?_) rfl (by kernel_rfl) (by kernel_rfl) (by kernel_rfl) (by rfl) ?_ hH ?_
      rotate_left
      · intro W hW; (try dsimp only at hW); go_simp <;> with_reducible rfl
      simp only [Act.put, List.setIfInBounds_toArray, List.set_cons_zero, List.set_cons_succ]
      refine hTake (i := 31) (v := ?_) rfl (by kernel_rfl) (by kernel_rfl) (by kernel_rfl) (by rfl) ?_ hH ?_
      rotate_left
      · intro W hW; (try dsimp only at hW); go_simp <;> with_reducible rfl
      simp only [Act.put, List.setIfInBounds_toArray, List.set_cons_zero, List.set_cons_succ]
      refine hTake (i := 32) (v := ?_) rfl (by kernel_rfl) (by kernel_rfl) (by kernel_rfl) (by rfl) ?_ hH ?_
      rotate_left
      · intro W hW; (try dsimp only at hW); go_simp <;> with_reducible rfl
      simp only [Act.put, List.setIfInBounds_toArray, List.set_cons_zero, List.set_cons_succ]
      refine hTake (i := 33) (v := ?_) rfl (by kernel_rfl) (by kernel_rfl) (by kernel_rfl) (by rfl) ?_ hH ?_
      rotate_left
      · intro W hW; (try dsimp only at hW); go_simp <;> with_reducible rfl
      simp only [Act.put, List.setIfInBounds_toArray, List.set_cons_zero, List.set_cons_succ]
      refine hTake (i := 34) (v := ?_) rfl (by kernel_rfl) (by kernel_rfl) (by kernel_rfl) (by rfl) ?_ hH ?_
      rotate_left
      · intro W hW; (try dsimp only at hW); go_simp <;> with_reducible rfl
      simp only [Act.put, List.setIfInBounds_toArray, List.set_cons_zero, List.set_cons_succ]
      refine hTake (i := 35) (v := ?_) rfl (by kernel_rfl) (by kernel_rfl) (by kernel_rfl) (by rfl) ?_ hH ?_
      rotate_left
      · intro W hW; (try dsimp only at hW); go_simp <;> with_reducible rfl
      simp only [Act.put, List.setIfInBounds_toArray, List.set_cons_zero, List.set_cons_succ]
      refine hTake (i := 36) (v := ?_) rfl (by kernel_rfl) (by kernel_rfl) (by kernel_rfl) (by rfl) ?_ hH ?_
      rotate_left
      · intro W hW; (try dsimp only at hW); go_simp <;> with_reducible rfl
      simp only [Act.put, List.setIfInBounds_toArray, List.set_cons_zero, List.set_cons_succ]
      refine hTake (i := 37) (v := ?_) rfl (by kernel_rfl) (by kernel_rfl) (by kernel_rfl) (by rfl) ?_ hH ?_
      rotate_left
      · intro W hW; (try dsimp only at hW); go_simp <;> with_reducible rfl
      simp only [Act.put, List.setIfInBounds_toArray, List.set_cons_zero, List.set_cons_succ]
      refine hTake (i := 38) (v := ?_) rfl (by kernel_rfl) (by kernel_rfl) (by kernel_rfl) (by rfl) ?_ hH ?_
      rotate_left
      · intro W hW; (try dsimp only at hW); go_simp <;> with_reducible rfl
      simp only [Act.put, List.setIfInBounds_toArray, List.set_cons_zero, List.set_cons_succ]
      refine hTake (i := 39) (v := ?_) rfl (by kernel_rfl) (by kernel_rfl) (by kernel_rfl) (by rfl) ?_ hH ?_
      rotate_left
      · intro W hW; (try dsimp only at hW); go_simp <;> with_reducible rfl
      simp only [Act.put, List.setIfInBounds_toArray, List.set_cons_zero, List.set_cons_succ]
      refine hTake (i := 40) (v := ?_) rfl (by kernel_rfl) (by kernel_rfl) (by kernel_rfl) (by rfl) ?_ hH ?_
      rotate_left
      · intro W hW; (try dsimp only at hW); go_simp <;> with_reducible rfl
      simp only [Act.put, List.setIfInBounds_toArray, List.set_cons_zero, List.set_cons_succ]
      refine hTake (i := 41) (v := ?_) rfl (by kernel_rfl) (by kernel_rfl) (by kernel_rfl) (by rfl) ?_ hH ?_
      rotate_left
      · intro W hW; (try dsimp only at hW); go_simp <;> with_reducible rfl
      simp only [Act.put, List.setIfInBounds_toArray, List.set_cons_zero, List.set_cons_succ]
      refine hTake (i := 42) (v := ?_) rfl (by kernel_rfl) (by kernel_rfl) (by kernel_rfl) (by rfl) ?_ hH ?_
      rotate_left
      · intro W hW; (try dsimp only at hW); go_simp <;> with_reducible rfl
      simp only [Act.put, List.setIfInBounds_toArray, List.set_cons_zero, List.set_cons_succ]
      refine hTake (i := 43) (v := ?_) rfl (by kernel_rfl) (by kernel_rfl) (by kernel_rfl) (by rfl) ?_ hH ?_
      rotate_left
      · intro W hW; (try dsimp only at hW); go_simp <;> with_reducible rfl
      simp only [Act.put, List.setIfInBounds_toArray, List.set_cons_zero, List.set_cons_succ]
      refine hTake (i := 44) (v := ?_) rfl (by kernel_rfl) (by kernel_rfl) (by kernel_rfl) (by rfl) ?_ hH ?_
      rotate_left
      · intro W hW; (try dsimp only at hW); go_simp <;> with_reducible rfl
      simp only [Act.put, List.setIfInBounds_toArray, List.set_cons_zero, List.set_cons_succ]
      refine hTake (i := 45) (v := ?_) rfl (by kernel_rfl) (by kernel_rfl) (by kernel_rfl) (by rfl) ?_ hH ?_
      rotate_left
      · intro W hW; (try dsimp only at hW); go_simp <;> with_reducible rfl
      simp only [Act.put, List.setIfInBounds_toArray, List.set_cons_zero, List.set_cons_succ]
      refine hTake (i := 46) (v := ?_) rfl (by kernel_rfl) (by kernel_rfl) (by kernel_rfl) (by rfl) ?_ hH ?_
      rotate_left
      · intro W hW; (try dsimp only at hW); go_simp <;> with_reducible rfl
      simp only [Act.put, List.setIfInBounds_toArray, List.set_cons_zero, List.set_cons_succ]
      refine hTake (i := 47) (v := ?_) rfl (by kernel_rfl) (by kernel_rfl) (by kernel_rfl) (by rfl) ?_ hH ?_
      rotate_left
      · intro W hW; (try dsimp only at hW); go_simp <;> with_reducible rfl
      simp only [Act.put, List.setIfInBounds_toArray, List.set_cons_zero, List.set_cons_succ]
      refine hTake (i := 48) (v := ?_) rfl (by kernel_rfl) (by kernel_rfl) (by kernel_rfl) (by rfl) ?_ hH ?_
      rotate_left
      · intro W hW; (try dsimp only at hW); go_simp <;> with_reducible rfl
      simp only [Act.put, List.setIfInBounds_toArray, List.set_cons_zero, List.set_cons_succ]
      refine hTake (i := 49) (v := ?_) rfl (by kernel_rfl) (by kernel_rfl) (by kernel_rfl) (by rfl) ?_ hH ?_
      rotate_left
      · intro W hW; (try dsimp only at hW); go_simp <;> with_reducible rfl
      simp only [Act.put, List.setIfInBounds_toArray, List.set_cons_zero, List.set_cons_succ]
      refine hTake (i := 50) (v := ?_) rfl (by kernel_rfl) (by kernel_rfl) (by kernel_rfl) (by rfl) ?_ hH ?_
      rotate_left
      · intro W hW; (try dsimp only at hW); go_simp <;> with_reducible rfl
      simp only [Act.put, List.setIfInBounds_toArray, List.set_cons_zero, List.set_cons_succ]
      refine hTake (i := 51) (v := ?_) rfl (by kernel_rfl) (by kernel_rfl) (by kernel_rfl) (by rfl) ?_ hH ?_
      rotate_left
      · intro W hW; (try dsimp only at hW); go_simp <;> with_reducible rfl
      simp only [Act.put, List.setIfInBounds_toArray, List.set_cons_zero, List.set_cons_succ]
      refine hTake (i := 52) (v := ?_) rfl (by kernel_rfl) (by kernel_rfl) (by kernel_rfl) (by rfl) ?_ hH ?_
      rotate_left
      · intro W hW; (try dsimp only at hW); go_simp <;> with_reducible rfl
      simp only [Act.put, List.setIfInBounds_toArray, List.set_cons_zero, List.set_cons_succ]
      refine hTake (i := 53) (v := ?_) rfl (by kernel_rfl) (by kernel_rfl) (by kernel_rfl) (by rfl) ?_ hH ?_
      rotate_left
      · intro W hW; (try dsimp only at hW); go_simp <;> with_reducible rfl
      simp only [Act.put, List.setIfInBounds_toArray, List.set_cons_zero, List.set_cons_succ]
      refine hTake (i := 54) (v := ?_) rfl (by kernel_rfl) (by kernel_rfl) (by kernel_rfl) (by rfl) ?_ hH ?_
      rotate_left
      · intro W hW; (try dsimp only at hW); go_simp <;> with_reducible rfl
      simp only [Act.put, List.setIfInBounds_toArray, List.set_cons_zero, List.set_cons_succ]
      refine wpAnyH_ready (rs := [55]) (by kernel_rfl) (by simp) ?_
      refine AllReadyH.cons rfl (fun K hK => ?_) AllReadyH.nil
      go_simp
      refine (RF _).mono ?_
      rintro e w9 ⟨rfl, b9⟩
      refine hK.out _ _ ?_ (fun hH => ?_)
      · exact ⟨keep_cell b9 hH.1, keep_cell b9 hH.2.1, keep_cell b9 hH.2.2.1, keep_cell b9 hH.2.2.2.1, keep_cell b9 hH.2.2.2.2.1, keep_cell b9 hH.2.2.2.2.2.1, keep_cell b9 hH.2.2.2.2.2.2.1, keep_cell b9 hH.2.2.2.2.2.2.2.1, keep_cell b9 hH.2.2.2.2.2.2.2.2.1, keep_cell b9 hH.2.2.2.2.2.2.2.2.2.1, keep_cell b9 hH.2.2.2.2.2.2.2.2.2.2.1, hH.2.2.2.2.2.2.2.2.2.2.2.trans (b9.mono hH.2.2.2.2.2.2.2.2.2.2.2.size)⟩
      clear hK K
      refine hTake (i := 56) (v := ?_) rfl (by kernel_rfl) (by kernel_rfl) (by kernel_rfl) (by rfl) ?_ hH ?_
      rotate_left
      · intro W hW; (try dsimp only at hW); go_simp <;> with_reducible rfl
      simp only [Act.put, List.setIfInBounds_toArray, List.set_cons_zero, List.set_cons_succ]
      refine hTake (i := 57) (v := ?_) rfl (by kernel_rfl) (by kernel_rfl) (by kernel_rfl) (by rfl) ?_ hH ?_
      rotate_left
      · intro W hW; (try dsimp only at hW); go_simp <;> with_reducible rfl
      simp only [Act.put, List.setIfInBounds_toArray, List.set_cons_zero, List.set_cons_succ]
      refine wpAnyH_done (by kernel_rfl) ?_ _
      refine NoPanic.normal ?_
      have hB' := hH.2.2.2.2.2.2.2.2.2.2.2
      clear hH
      have hP' := block_below b9 (show wr.drew.heap[w2.heap.size]? = some _ from hP)
      go_wp2
      go_roundw
      case rel => exact ⟨k + 1, by omega, by go_num, hP', hB'⟩
      case measure => simp [intOf]; omega
    · obtain rfl : k = p2 := by omega
      clear HREC
      generalize wr = wq at *
      go_wp2
      go_loopw [9] (fun q wr => ∃ (i : Nat), i ≤ k ∧ q = .int .i64 i ∧ wr.heap[w2.heap.size]? = some (.cells #[.int .i64 0, .slice a2 m2 c2, .slice r2 k q2] 29 (0, 0)) ∧ Below w2.heap.size w2 wr) (fun q _ => k - (intOf q).toNat)
      case atStart => exact ⟨0, Nat.zero_le _, rfl, hP, hB⟩
      case round =>
        clear hP hB x0 x1 x2 lx
        obtain ⟨i, hi, rfl, hP, hB⟩ := hrel
        by_cases hil : i < k
        · have HFI := hid (HFST.out i (by have := HLB.out; omega))
          generalize wr = wp at *
          go_wp2
          go_loopw [10, 11] (fun th q wr => ∃ (j : Nat) (f : Bool), j ≤ i ∧ q = .int .i64 j ∧ th = .bool f ∧ Hid (f = true → ∀ j', j' < j → (bs.getD j' Ch.Bf.zero).k ≠ (bs.getD i Ch.Bf.zero).k) ∧ wr.heap[w2.heap.size]? = some (.cells #[.int .i64 0, .slice a2 m2 c2, .slice r2 k q2] 29 (0, 0)) ∧ Below w2.heap.size w2 wr) (fun _ q _ => i - (intOf q).toNat)
          case atStart => exact ⟨0, true, Nat.zero_le _, rfl, rfl, hid (fun _ j' hj' => by omega), hP, hB⟩
          case round =>
            clear hP hB
            obtain ⟨j, f, hj, rfl, rfl, HA, hP, hB⟩ := hrel
            by_cases hjl : j < i
            · obtain ⟨bb, bo, hab, d0, d1, d2⟩ := (owns_cells (owns_below ob hB)).bef (k := j) (by omega)
              obtain ⟨bb', bo', hab', e0, e1, e2⟩ := (owns_cells (owns_below ob hB)).bef (k := i) hil
              subst hab
              cases hab'
              have ld := lt_of_cell d0
              have HAN := hid (fun (hf : f = true) hne => fun j' (hj' : j' < j + 1) => (if he : j' = j then by rw [he]; exact hne else HA.out hf j' (by omega) : (bs.getD j' Ch.Bf.zero).k ≠ (bs.getD i Ch.Bf.zero).k))
              clear HFI
              generalize hri : bs.getD i Ch.Bf.zero = ri at *
              generalize hrj : bs.getD j Ch.Bf.zero = rj at *
              obtain ⟨xi, xih, xiv⟩ := ri
              obtain ⟨xk, xkh, xkv⟩ := rj
              simp only at d0 e0 HAN
              have hjk : j < k := by omega
              clear HA d1 d2 e1 e2
              cases f
              · clear HAN hri hrj
                go_wp2_with fail
                refine wp_region_noPanic ?_
                refine wp_region_held_drew (S := fun W' => W'.cell? ⟨bb, bo + j * 3, none⟩ = some (.int .i64 xk) ∧ W'.cell? ⟨bb, bo + i * 3, none⟩ = some (.int .i64 xi) ∧ Below w2.heap.size w2 W') (by kernel_rfl) (⟨d0, e0, hB.drew⟩) (fun hH => ?_)
                refine hTake (i := 0) (v := ?_) rfl (by kernel_rfl) (by kernel_rfl) (by kernel_rfl) (by rfl) ?_ hH ?_
                rotate_left
                · intro W hW; (try dsimp only at hW); go_simp <;> with_reducible rfl
                simp only [Act.put, List.setIfInBounds_toArray, List.set_cons_zero, List.set_cons_succ]
                refine hTake (i := 1) (v := ?_) rfl (by kernel_rfl) (by kernel_rfl) (by kernel_rfl) (by rfl) ?_ hH ?_
                rotate_left
                · intro W hW; (try dsimp only at hW); go_simp <;> with_reducible rfl
                simp only [Act.put, List.setIfInBounds_toArray, List.set_cons_zero, List.set_cons_succ]
                refine hSkip (i := 2) rfl (by kernel_rfl) (by kernel_rfl) (by kernel_rfl) (by rfl) hH ?_
                simp only [Act.put, List.setIfInBounds_toArray, List.set_cons_zero, List.set_cons_succ]
                refine hSkip (i := 3) rfl (by kernel_rfl) (by kernel_rfl) (by kernel_rfl) (by rfl) hH ?_
                simp only [Act.put, List.setIfInBounds_toArray, List.set_cons_zero, List.set_cons_succ]
                refine hSkip (i := 4) rfl (by kernel_rfl) (by kernel_rfl) (by kernel_rfl) (by rfl) hH ?_
                simp only [Act.put, List.setIfInBounds_toArray, List.set_cons_zero, List.set_cons_succ]
                refine hSkip (i := 5) rfl (by kernel_rfl) (by kernel_rfl) (by kernel_rfl) (by rfl) hH ?_
                simp only [Act.put, List.setIfInBounds_toArray, List.set_cons_zero, List.set_cons_succ]
                refine hSkip (i := 6) rfl (by kernel_rfl) (by kernel_rfl) (by kernel_rfl) (by rfl) hH ?_
                simp only [Act.put, List.setIfInBounds_toArray, List.set_cons_zero, List.set_cons_succ]
                refine hSkip (i := 7) rfl (by kernel_rfl) (by kernel_rfl) (by kernel_rfl) (by rfl) hH ?_
                simp only [Act.put, List.setIfInBounds_toArray, List.set_cons_zero, List.set_cons_succ]
                refine hSkip (i := 8) rfl (by kernel_rfl) (by kernel_rfl) (by kernel_rfl) (by rfl) hH ?_
                simp only [Act.put, List.setIfInBounds_toArray, List.set_cons_zero, List.set_cons_succ]
                refine hSkip (i := 9) rfl (by kernel_rfl) (by kernel_rfl) (by kernel_rfl) (by rfl) hH ?_
                simp only [Act.put, List.setIfInBounds_toArray, List.set_cons_zero, List.set_cons_succ]
                refine hSkip (i := 10) rfl (by kernel_rfl) (by kernel_rfl) (by kernel_rfl) (by rfl) hH ?_
                simp only [Act.put, List.setIfInBounds_toArray, List.set_cons_zero, List.set_cons_succ]
                refine hSkip (i := 11) rfl (by kernel_rfl) (by kernel_rfl) (by kernel_rfl) (by rfl) hH ?_
                simp only [Act.put, List.setIfInBounds_toArray, List.set_cons_zero, List.set_cons_succ]
                refine hSkip (i := 12) rfl (by kernel_rfl) (by kernel_rfl) (by kernel_rfl) (by rfl) hH ?_
                simp only [Act.put, List.setIfInBounds_toArray, List.set_cons_zero, List.set_cons_succ]
                refine hTake (i := 13) (v := ?_) rfl (by kernel_rfl) (by kernel_rfl) (by kernel_rfl) (by rfl) ?_ hH ?_
                rotate_left
                · intro W hW; (try dsimp only at hW); go_simp <;> with_reducible rfl
                simp only [Act.put, List.setIfInBounds_toArray, List.set_cons_zero, List.set_cons_succ]
                refine hTake (i := 14) (v := ?_) rfl (by kernel_rfl) (by kernel_rfl) (by kernel_rfl) (by rfl) ?_ hH ?_
                rotate_left
                · intro W hW; (try dsimp only at hW); go_simp <;> with_reducible rfl
                simp only [Act.put, List.setIfInBounds_toArray, List.set_cons_zero, List.set_cons_succ]
                refine wpAnyH_done (by kernel_rfl) ?_ _
                refine NoPanic.normal ?_
                have hB' := hH.2.2
                clear hH
                have hP' : wr.drew.heap[w2.heap.size]? = some _ := hP
                go_wp2
                go_roundw
                case rel => exact ⟨j + 1, false, by omega, by go_num, rfl, hid (fun e => by cases e), hP', hB'⟩
                case measure => simp [intOf]; omega
              · by_cases hx : xk = xi
                · have e1 : (xk != xi) = false := by simpa using hx
                  clear HAN hri hrj hx
                  go_wp2_with fail
                  refine wp_region_noPanic ?_
                  refine wp_region_held_drew (S := fun W' => W'.cell? ⟨bb, bo + j * 3, none⟩ = some (.int .i64 xk) ∧ W'.cell? ⟨bb, bo + i * 3, none⟩ = some (.int .i64 xi) ∧ Below w2.heap.size w2 W') (by kernel_rfl) (⟨d0, e0, hB.drew⟩) (fun hH => ?_)
                  refine hTake (i := 0) (v := ?_) rfl (by kernel_rfl) (by kernel_rfl) (by kernel_rfl) (by rfl) ?_ hH ?_
                  rotate_left
                  · intro W hW; (try dsimp only at hW); go_simp <;> with_reducible rfl
                  simp only [Act.put, List.setIfInBounds_toArray, List.set_cons_zero, List.set_cons_succ]
                  refine hTake (i := 1) (v := ?_) rfl (by kernel_rfl) (by kernel_rfl) (by kernel_rfl) (by rfl) ?_ hH ?_
                  rotate_left
                  · intro W hW; (try dsimp only at hW); go_simp <;> with_reducible rfl
                  simp only [Act.put, List.setIfInBounds_toArray, List.set_cons_zero, List.set_cons_succ]
                  refine hTake (i := 2) (v := ?_) rfl (by kernel_rfl) (by kernel_rfl) (by kernel_rfl) (by rfl) ?_ hH ?_
                  rotate_left
                  · intro W hW; (try dsimp only at hW); go_simp <;> with_reducible rfl
                  simp only [Act.put, List.setIfInBounds_toArray, List.set_cons_zero, List.set_cons_succ]
                  refine hTake (i := 3) (v := ?_) rfl (by kernel_rfl) (by kernel_rfl) (by kernel_rfl) (by rfl) ?_ hH ?_
                  rotate_left
                  · intro W hW; (try dsimp only at hW); go_simp <;> with_reducible rfl
                  simp only [Act.put, List.setIfInBounds_toArray, List.set_cons_zero, List.set_cons_succ]
                  refine hTake (i := 4) (v := ?_) rfl (by kernel_rfl) (by kernel_rfl) (by kernel_rfl) (by rfl) ?_ hH ?_
                  rotate_left
                  · intro W hW; (try dsimp only at hW); go_simp <;> with_reducible rfl
                  simp only [Act.put, List.setIfInBounds_toArray, List.set_cons_zero, List.set_cons_succ]
                  refine hTake (i := 5) (v := ?_) rfl (by kernel_rfl) (by kernel_rfl) (by kernel_rfl) (by rfl) ?_ hH ?_
                  rotate_left
                  · intro W hW; (try dsimp only at hW); go_simp <;> with_reducible rfl
                  simp only [Act.put, List.setIfInBounds_toArray, List.set_cons_zero, List.set_cons_succ]
                  refine hTake (i := 6) (v := ?_) rfl (by kernel_rfl) (by kernel_rfl) (by kernel_rfl) (by rfl) ?_ hH ?_
                  rotate_left
                  · intro W hW; (try dsimp only at hW); go_simp <;> with_reducible rfl
                  simp only [Act.put, List.setIfInBounds_toArray, List.set_cons_zero, List.set_cons_succ]
                  refine hTake (i := 7) (v := ?_) rfl (by kernel_rfl) (by kernel_rfl) (by kernel_rfl) (by rfl) ?_ hH ?_
                  rotate_left
                  · intro W hW; (try dsimp only at hW); go_simp <;> with_reducible rfl
                  simp only [Act.put, List.setIfInBounds_toArray, List.set_cons_zero, List.set_cons_succ]
                  refine hTake (i := 8) (v := ?_) rfl (by kernel_rfl) (by kernel_rfl) (by kernel_rfl) (by rfl) ?_ hH ?_
                  rotate_left
                  · intro W hW; (try dsimp only at hW); go_simp <;> with_reducible rfl
                  simp only [Act.put, List.setIfInBounds_toArray, List.set_cons_zero, List.set_cons_succ]
                  refine hTake (i := 9) (v := ?_) rfl (by kernel_rfl) (by kernel_rfl) (by kernel_rfl) (by rfl) ?_ hH ?_
                  rotate_left
                  · intro W hW; (try dsimp only at hW); go_simp <;> with_reducible rfl
                  simp only [Act.put, List.setIfInBounds_toArray, List.set_cons_zero, List.set_cons_succ]
                  refine hTake (i := 10) (v := ?_) rfl (by kernel_rfl) (by kernel_rfl) (by kernel_rfl) (by rfl) ?_ hH ?_
                  rotate_left
                  · intro W hW; (try dsimp only at hW); go_simp <;> with_reducible rfl
                  simp only [Act.put, List.setIfInBounds_toArray, List.set_cons_zero, List.set_cons_succ]
                  refine hTake (i := 11) (v := ?_) rfl (by kernel_rfl) (by kernel_rfl) (by kernel_rfl) (by rfl) ?_ hH ?_
                  rotate_left
                  · intro W hW; (try dsimp only at hW); go_simp <;> with_reducible rfl
                  simp only [Act.put, List.setIfInBounds_toArray, List.set_cons_zero, List.set_cons_succ]
                  refine hTake (i := 12) (v := ?_) rfl (by kernel_rfl) (by kernel_rfl) (by kernel_rfl) (by rfl) ?_ hH ?_
                  rotate_left
                  · intro W hW; (try dsimp only at hW); go_simp <;> with_reducible rfl
                  simp only [Act.put, List.setIfInBounds_toArray, List.set_cons_zero, List.set_cons_succ]
                  refine hTake (i := 13) (v := ?_) rfl (by kernel_rfl) (by kernel_rfl) (by kernel_rfl) (by rfl) ?_ hH ?_
                  rotate_left
                  · intro W hW; (try dsimp only at hW); go_simp <;> with_reducible rfl
                  simp only [Act.put, List.setIfInBounds_toArray, List.set_cons_zero, List.set_cons_succ]
                  refine hTake (i := 14) (v := ?_) rfl (by kernel_rfl) (by kernel_rfl) (by kernel_rfl) (by rfl) ?_ hH ?_
                  rotate_left
                  · intro W hW; (try dsimp only at hW); go_simp <;> with_reducible rfl
                  simp only [Act.put, List.setIfInBounds_toArray, List.set_cons_zero, List.set_cons_succ]
                  refine wpAnyH_done (by kernel_rfl) ?_ _
                  refine NoPanic.normal ?_
                  have hB' := hH.2.2
                  clear hH
                  have hP' : wr.drew.heap[w2.heap.size]? = some _ := hP
                  go_wp2
                  go_roundw
                  case rel => exact ⟨j + 1, false, by omega, by go_num, rfl, hid (fun e => by cases e), hP', hB'⟩
                  case measure => simp [intOf]; omega
                · have e1 : (xk != xi) = true := by simpa using hx
                  replace HAN := hid (HAN.out rfl hx)
                  clear hri hrj hx
                  go_wp2_with fail
                  refine wp_region_noPanic ?_
                  refine wp_region_held_drew (S := fun W' => W'.cell? ⟨bb, bo + j * 3, none⟩ = some (.int .i64 xk) ∧ W'.cell? ⟨bb, bo + i * 3, none⟩ = some (.int .i64 xi) ∧ Below w2.heap.size w2 W') (by kernel_rfl) (⟨d0, e0, hB.drew⟩) (fun hH => ?_)
                  refine hTake (i := 0) (v := ?_) rfl (by kernel_rfl) (by kernel_rfl) (by kernel_rfl) (by rfl) ?_ hH ?_
                  rotate_left
                  · intro W hW; (try dsimp only at hW); go_simp <;> with_reducible rfl
                  simp only [Act.put, List.setIfInBounds_toArray, List.set_cons_zero, List.set_cons_succ]
                  refine hTake (i := 1) (v := ?_) rfl (by kernel_rfl) (by kernel_rfl) (by kernel_rfl) (by rfl) ?_ hH ?_
                  rotate_left
                  · intro W hW; (try dsimp only at hW); go_simp <;> with_reducible rfl
                  simp only [Act.put, List.setIfInBounds_toArray, List.set_cons_zero, List.set_cons_succ]
                  refine hTake (i := 2) (v := ?_) rfl (by kernel_rfl) (by kernel_rfl) (by kernel_rfl) (by rfl) ?_ hH ?_
                  rotate_left
                  · intro W hW; (try dsimp only at hW); go_simp <;> with_reducible rfl
                  simp only [Act.put, List.setIfInBounds_toArray, List.set_cons_zero, List.set_cons_succ]
                  refine hTake (i := 3) (v := ?_) rfl (by kernel_rfl) (by kernel_rfl) (by kernel_rfl) (by rfl) ?_ hH ?_
                  rotate_left
                  · intro W hW; (try dsimp only at hW); go_simp <;> with_reducible rfl
                  simp only [Act.put, List.setIfInBounds_toArray, List.set_cons_zero, List.set_cons_succ]
                  refine hTake (i := 4) (v := ?_) rfl (by kernel_rfl) (by kernel_rfl) (by kernel_rfl) (by rfl) ?_ hH ?_
                  rotate_left
                  · intro W hW; (try dsimp only at hW); go_simp <;> with_reducible rfl
                  simp only [Act.put, List.setIfInBounds_toArray, List.set_cons_zero, List.set_cons_succ]
                  refine hTake (i := 5) (v := ?_) rfl (by kernel_rfl) (by kernel_rfl) (by kernel_rfl) (by rfl) ?_ hH ?_
                  rotate_left
                  · intro W hW; (try dsimp only at hW); go_simp <;> with_reducible rfl
                  simp only [Act.put, List.setIfInBounds_toArray, List.set_cons_zero, List.set_cons_succ]
                  refine hTake (i := 6) (v := ?_) rfl (by kernel_rfl) (by kernel_rfl) (by kernel_rfl) (by rfl) ?_ hH ?_
                  rotate_left
                  · intro W hW; (try dsimp only at hW); go_simp <;> with_reducible rfl
                  simp only [Act.put, List.setIfInBounds_toArray, List.set_cons_zero, List.set_cons_succ]
                  refine hTake (i := 7) (v := ?_) rfl (by kernel_rfl) (by kernel_rfl) (by kernel_rfl) (by rfl) ?_ hH ?_
                  rotate_left
                  · intro W hW; (try dsimp only at hW); go_simp <;> with_reducible rfl
                  simp only [Act.put, List.setIfInBounds_toArray, List.set_cons_zero, List.set_cons_succ]
                  refine hTake (i := 8) (v := ?_) rfl (by kernel_rfl) (by kernel_rfl) (by kernel_rfl) (by rfl) ?_ hH ?_
                  rotate_left
                  · intro W hW; (try dsimp only at hW); go_simp <;> with_reducible rfl
                  simp only [Act.put, List.setIfInBounds_toArray, List.set_cons_zero, List.set_cons_succ]
                  refine hTake (i := 9) (v := ?_) rfl (by kernel_rfl) (by kernel_rfl) (by kernel_rfl) (by rfl) ?_ hH ?_
                  rotate_left
                  · intro W hW; (try dsimp only at hW); go_simp <;> with_reducible rfl
                  simp only [Act.put, List.setIfInBounds_toArray, List.set_cons_zero, List.set_cons_succ]
                  refine hTake (i := 10) (v := ?_) rfl (by kernel_rfl) (by kernel_rfl) (by kernel_rfl) (by rfl) ?_ hH ?_
                  rotate_left
                  · intro W hW; (try dsimp only at hW); go_simp <;> with_reducible rfl
                  simp only [Act.put, List.setIfInBounds_toArray, List.set_cons_zero, List.set_cons_succ]
                  refine hTake (i := 11) (v := ?_) rfl (by kernel_rfl) (by kernel_rfl) (by kernel_rfl) (by rfl) ?_ hH ?_
                  rotate_left
                  · intro W hW; (try dsimp only at hW); go_simp <;> with_reducible rfl
                  simp only [Act.put, List.setIfInBounds_toArray, List.set_cons_zero, List.set_cons_succ]
                  refine hTake (i := 12) (v := ?_) rfl (by kernel_rfl) (by kernel_rfl) (by kernel_rfl) (by rfl) ?_ hH ?_
                  rotate_left
                  · intro W hW; (try dsimp only at hW); go_simp <;> with_reducible rfl
                  simp only [Act.put, List.setIfInBounds_toArray, List.set_cons_zero, List.set_cons_succ]
                  refine hTake (i := 13) (v := ?_) rfl (by kernel_rfl) (by kernel_rfl) (by kernel_rfl) (by rfl) ?_ hH ?_
                  rotate_left
                  · intro W hW; (try dsimp only at hW); go_simp <;> with_reducible rfl
                  simp only [Act.put, List.setIfInBounds_toArray, List.set_cons_zero, List.set_cons_succ]
                  refine hTake (i := 14) (v := ?_) rfl (by kernel_rfl) (by kernel_rfl) (by kernel_rfl) (by rfl) ?_ hH ?_
                  rotate_left
                  · intro W hW; (try dsimp only at hW); go_simp <;> with_reducible rfl
                  simp only [Act.put, List.setIfInBounds_toArray, List.set_cons_zero, List.set_cons_succ]
                  refine wpAnyH_done (by kernel_rfl) ?_ _
                  refine NoPanic.normal ?_
                  have hB' := hH.2.2
                  clear hH
                  have hP' : wr.drew.heap[w2.heap.size]? = some _ := hP
                  go_wp2
                  go_roundw
                  case rel => exact ⟨j + 1, true, by omega, by go_num, rfl, hid (fun _ => HAN.out), hP', hB'⟩
                  case measure => simp [intOf]; omega
            · obtain rfl : j = i := by omega
              have HF2 := hid (fun hf => HFI.out (HA.out hf))
              clear HA HFI
              obtain ⟨x0, x1, x2⟩ := undo_box hP
              have lx := lt_of_cell x0
              obtain ⟨bb, bo, hab, e0, e1, e2⟩ := (owns_cells (owns_below ob hB)).bef (k := j) hil
              have BO := fun (W : World) (hW : OwnU W w1.heap.size (.slice a2 m2 c2) m2 ls' (.slice r2 k q2) k rs) => implBeforeOf_any a2 m2 c2 (bs.getD j Ch.Bf.zero).k ls' W (OwnU.lv hW hsz) hsz
              subst hab
              have le := lt_of_cell e0
              have HE : Hid (∀ W, Below w2.heap.size w2 W → W.cell? ⟨bb, bo + j * 3, none⟩ = some (.int .i64 (bs.getD j Ch.Bf.zero).k) ∧ W.cell? ⟨bb, bo + j * 3 + 1, none⟩ = some (.bool (bs.getD j Ch.Bf.zero).h) ∧ W.cell? ⟨bb, bo + j * 3 + 2, none⟩ = some (.int .i64 (bs.getD j Ch.Bf.zero).v)) := fun W hW => by
                obtain ⟨bb', bo', hab', f0, f1, f2⟩ := (owns_cells (owns_below ob hW)).bef (k := j) hil
                cases hab'
                exact ⟨f0, f1, f2⟩
              generalize bs.getD j Ch.Bf.zero = br at *
              obtain ⟨bk, bh, bv⟩ := br
              simp only at e0 e1 e2 BO HF2
              generalize hbo : Ch.bfOf ls' bk = bo2 at *
              obtain ⟨rk, rh, rv⟩ := bo2
              simp only at BO
              clear hbo
              go_upto_region 23 with fail
              go_cut [12] (fun s wx => ∃ P, s = .pointer (some ⟨P, 0, none⟩) ∧ w2.heap.size ≤ P ∧ wx.cell? ⟨P, 0, none⟩ = some (.int .i64 rk) ∧ wx.cell? ⟨P, 1, none⟩ = some (.bool rh) ∧ wx.cell? ⟨P, 2, none⟩ = some (.int .i64 rv) ∧ wx.heap[w2.heap.size]? = some (.cells #[.int .i64 0, .slice a2 m2 c2, .slice r2 k q2] 29 (0, 0)) ∧ Below w2.heap.size w2 wx)
              case first =>
                refine wp_region_noPanic ?_
                refine wp_region_held_drew (S := fun W' => W'.cell? ⟨w2.heap.size, 1, none⟩ = some (.slice a2 m2 c2) ∧ W'.cell? ⟨bb, bo + j * 3, none⟩ = some (.int .i64 bk) ∧ Below w2.heap.size w2 W') (by kernel_rfl) (⟨x1, e0, hB.drew⟩) (fun hH => ?_)
                refine hTake (i := 0) (v := ?_) rfl (by kernel_rfl) (by kernel_rfl) (by kernel_rfl) (by rfl) ?_ hH ?_
                rotate_left
                · intro W hW; (try dsimp only at hW); go_simp <;> with_reducible rfl
                simp only [Act.put, List.setIfInBounds_toArray, List.set_cons_zero, List.set_cons_succ]
                refine hTake (i := 1) (v := ?_) rfl (by kernel_rfl) (by kernel_rfl) (by kernel_rfl) (by rfl) ?_ hH ?_
                rotate_left
                · intro W hW; (try dsimp only at hW); go_simp <;> with_reducible rfl
                simp only [Act.put, List.setIfInBounds_toArray, List.set_cons_zero, List.set_cons_succ]
                refine hTake (i := 2) (v := ?_) rfl (by kernel_rfl) (by kernel_rfl) (by kernel_rfl) (by rfl) ?_ hH ?_
                rotate_left
                · intro W hW; (try dsimp only at hW); go_simp <;> with_reducible rfl
                simp only [Act.put, List.setIfInBounds_toArray, List.set_cons_zero, List.set_cons_succ]
                refine hTake (i := 3) (v := ?_) rfl (by kernel_rfl) (by kernel_rfl) (by kernel_rfl) (by rfl) ?_ hH ?_
                rotate_left
                · intro W hW; (try dsimp only at hW); go_simp <;> with_reducible rfl
                simp only [Act.put, List.setIfInBounds_toArray, List.set_cons_zero, List.set_cons_succ]
                refine hTake (i := 4) (v := ?_) rfl (by kernel_rfl) (by kernel_rfl) (by kernel_rfl) (by rfl) ?_ hH ?_
                rotate_left
                · intro W hW; (try dsimp only at hW); go_simp <;> with_reducible rfl
                simp only [Act.put, List.setIfInBounds_toArray, List.set_cons_zero, List.set_cons_succ]
                refine hTake (i := 5) (v := ?_) rfl (by kernel_rfl) (by kernel_rfl) (by kernel_rfl) (by rfl) ?_ hH ?_
                rotate_left
                · intro W hW; (try dsimp only at hW); go_simp <;> with_reducible rfl
                simp only [Act.put, List.setIfInBounds_toArray, List.set_cons_zero, List.set_cons_succ]
                refine hTake (i := 6) (v := ?_) rfl (by kernel_rfl) (by kernel_rfl) (by kernel_rfl) (by rfl) ?_ hH ?_
                rotate_left
                · intro W hW; (try dsimp only at hW); go_simp <;> with_reducible rfl
                simp only [Act.put, List.setIfInBounds_toArray, List.set_cons_zero, List.set_cons_succ]
                have hPd : wr.drew.heap[w2.heap.size]? = some (.cells #[.int .i64 0, .slice a2 m2 c2, .slice r2 k q2] 29 (0, 0)) := hP
                have szd : wr.heap.size ≤ wr.drew.heap.size := Nat.le_refl _
                have bbl := lt_of_cell hH.2.1
                have xbl := lt_of_cell hH.1
                generalize wr.drew = wd at *
                refine wpAnyH_ready (rs := [7, 8]) (by kernel_rfl) (by simp) ?_
                refine AllReadyH.cons rfl (fun K hK => ?_) (AllReadyH.cons rfl (fun K hK => ?_) AllReadyH.nil)
                · go_simp
                  refine (BO _ (o2.below hH.2.2)).mono ?_
                  rintro e w5 ⟨rfl, b5⟩
                  go_wp2_with fail
                  refine hK.out _ _ ?_ (fun hH => ?_)
                  · exact ⟨keep_cell b5 hH.1, keep_cell b5 hH.2.1, hH.2.2.trans (b5.mono hH.2.2.size)⟩
                  clear hK K
                  have hP5 := block_below b5 hPd
                  have hH5 := hH
                  have bbl5 := lt_of_cell hH.2.1
                  have xbl5 := lt_of_cell hH.1
                  refine wpAnyH_ready (rs := [8]) (by kernel_rfl) (by simp) ?_
                  refine AllReadyH.cons rfl (fun K hK => ?_) AllReadyH.nil
                  have kZ : Below w5.heap.size w5 (w5.alloc (.cells #[.int .i64 0, .bool false, .int .i64 0] 32)) := (Below.refl _ _).alloc (Nat.le_refl _) _
                  go_simp
                  refine hK.out _ _ ?_ (fun hH => ?_)
                  · exact ⟨keep_cell kZ hH.1, keep_cell kZ hH.2.1, hH.2.2.trans (kZ.mono hH.2.2.size)⟩
                  clear hK K
                  have hNz := heap_alloc_new w5 (.cells #[.int .i64 0, .bool false, .int .i64 0] 32)
                  obtain ⟨bp0, bp1, bp2⟩ := undo_box hNz
                  have bq0 := frz_of (o := 0) hNz
                  have bq1 := frz_of (o := 1) hNz
                  have bq2 := frz_of (o := 2) hNz
                  have hPA : w2.heap.size ≤ w5.heap.size := by omega
                  have hPx : (w2.heap.size : Nat) ≠ w5.heap.size := by omega
                  have hPb : (bb : Nat) ≠ w5.heap.size := by omega
                  have kV : Below w5.heap.size w5 (w5.alloc (.cells #[.int .i64 rk, .bool rh, .int .i64 rv] 32)) := (Below.refl _ _).alloc (Nat.le_refl _) _
                  have hPv := block_below kV hP5
                  have hNv := heap_alloc_new w5 (.cells #[.int .i64 rk, .bool rh, .int .i64 rv] 32)
                  refine wpAnyH_ready (rs := [9]) (by kernel_rfl) (by simp) ?_
                  refine AllReadyH.cons rfl (fun K hK => ?_) AllReadyH.nil
                  have lPz := lt_of_cell bp0
                  go_simp
                  refine hK.out _ _ ?_ (fun hH => ?_)
                  · exact ⟨keep_cell kV hH5.1, keep_cell kV hH5.2.1, hH5.2.2.trans (kV.mono hH5.2.2.size)⟩
                  clear hK K
                  refine wpAnyH_done (by kernel_rfl) ?_ _
                  refine NoPanic.normal ?_
                  go_wp2_with fail
                  go_meet
                  exact ⟨w5.heap.size, rfl, hPA, (undo_box hNv).1, (undo_box hNv).2.1, (undo_box hNv).2.2, hPv, hH.2.2⟩
                · have kZ : Below wd.heap.size wd (wd.alloc (.cells #[.int .i64 0, .bool false, .int .i64 0] 32)) := (Below.refl _ _).alloc (Nat.le_refl _) _
                  go_simp
                  refine hK.out _ _ ?_ (fun hH => ?_)
                  · exact ⟨keep_cell kZ hH.1, keep_cell kZ hH.2.1, hH.2.2.trans (kZ.mono hH.2.2.size)⟩
                  clear hK K
                  have hNz := heap_alloc_new wd (.cells #[.int .i64 0, .bool false, .int .i64 0] 32)
                  have hPz := block_below kZ hPd
                  refine wpAnyH_ready (rs := [7]) (by kernel_rfl) (by simp) ?_
                  refine AllReadyH.cons rfl (fun K hK => ?_) AllReadyH.nil
                  go_simp
                  refine (BO _ (o2.below hH.2.2)).mono ?_
                  rintro e w5 ⟨rfl, b5⟩
                  go_wp2_with fail
                  refine hK.out _ _ ?_ (fun hH => ?_)
                  · exact ⟨keep_cell b5 hH.1, keep_cell b5 hH.2.1, hH.2.2.trans (b5.mono hH.2.2.size)⟩
                  clear hK K
                  have hNz := block_below b5 hNz
                  have hPz := block_below b5 hPz
                  obtain ⟨bp0, bp1, bp2⟩ := undo_box hNz
                  have bq0 := frz_of (o := 0) hNz
                  have bq1 := frz_of (o := 1) hNz
                  have bq2 := frz_of (o := 2) hNz
                  have hPA : w2.heap.size ≤ wd.heap.size := by omega
                  have hPx : (w2.heap.size : Nat) ≠ wd.heap.size := by omega
                  have hPb : (bb : Nat) ≠ wd.heap.size := by omega
                  refine wpAnyH_ready (rs := [9]) (by kernel_rfl) (by simp) ?_
                  refine AllReadyH.cons rfl (fun K hK => ?_) AllReadyH.nil
                  have lPz := lt_of_cell bp0
                  go_simp
                  refine hK.out _ _ ?_ (fun hH => ?_)
                  · exact ⟨by rw [setCell_far hPx, setCell_far hPx, setCell_far hPx]; exact hH.1, by rw [setCell_far hPb, setCell_far hPb, setCell_far hPb]; exact hH.2.1, (((hH.2.2.setCell (p := ⟨wd.heap.size, 0, none⟩) hPA _).setCell (p := ⟨wd.heap.size, 1, none⟩) hPA _).setCell (p := ⟨wd.heap.size, 2, none⟩) hPA _)⟩
                  clear hK K
                  refine wpAnyH_done (by kernel_rfl) ?_ _
                  refine NoPanic.normal ?_
                  go_wp2_with fail
                  go_meet
                  refine ⟨wd.heap.size, rfl, hPA, by simp [go_sem, bp0, bp1, bp2], by simp [go_sem, bp0, bp1, bp2], by simp [go_sem, bp0, bp1, bp2], ?_, hH.2.2⟩
                  rw [Below.heap_setCell _ _ _ _ (by show w2.heap.size ≠ wd.heap.size; omega), Below.heap_setCell _ _ _ _ (by show w2.heap.size ≠ wd.heap.size; omega), Below.heap_setCell _ _ _ _ (by show w2.heap.size ≠ wd.heap.size; omega)]
                  exact hPz
              case rest =>
                obtain ⟨P, rfl, hPA, t0, t1, t2, hPx, hBx⟩ := hcut
                obtain ⟨wy, hwy⟩ : ∃ x : World, x = wc := ⟨_, rfl⟩
                subst hwy
                clear x0 x1 x2 lx e0 e1 e2 le hP hB BO
                obtain ⟨e0, e1, e2⟩ := HE.out _ hBx
                have le := lt_of_cell e0
                have lt := lt_of_cell t0
                clear HE
                cases f
                · clear HF2
                  go_wp2_with fail
                  refine wp_region_noPanic ?_
                  refine wp_region_held_drew (S := fun W' => Below w2.heap.size w2 W') (by kernel_rfl) (hBx.drew) (fun hH => ?_)
                  refine hTake (i := 0) (v := ?_) rfl (by kernel_rfl) (by kernel_rfl) (by kernel_rfl) (by rfl) ?_ hH ?_
                  rotate_left
                  · intro W hW; (try dsimp only at hW); go_simp <;> with_reducible rfl
                  simp only [Act.put, List.setIfInBounds_toArray, List.set_cons_zero, List.set_cons_succ]
                  refine hTake (i := 1) (v := ?_) rfl (by kernel_rfl) (by kernel_rfl) (by kernel_rfl) (by rfl) ?_ hH ?_
                  rotate_left
                  · intro W hW; (try dsimp only at hW); go_simp <;> with_reducible rfl
                  simp only [Act.put, List.setIfInBounds_toArray, List.set_cons_zero, List.set_cons_succ]
                  refine hSkip (i := 2) rfl (by kernel_rfl) (by kernel_rfl) (by kernel_rfl) (by rfl) hH ?_
                  simp only [Act.put, List.setIfInBounds_toArray, List.set_cons_zero, List.set_cons_succ]
                  refine hSkip (i := 3) rfl (by kernel_rfl) (by kernel_rfl) (by kernel_rfl) (by rfl) hH ?_
                  simp only [Act.put, List.setIfInBounds_toArray, List.set_cons_zero, List.set_cons_succ]
                  refine hSkip (i := 4) rfl (by kernel_rfl) (by kernel_rfl) (by kernel_rfl) (by rfl) hH ?_
                  simp only [Act.put, List.setIfInBounds_toArray, List.set_cons_zero, List.set_cons_succ]
                  refine hSkip (i := 5) rfl (by kernel_rfl) (by kernel_rfl) (by kernel_rfl) (by rfl) hH ?_
                  simp only [Act.put, List.setIfInBounds_toArray, List.set_cons_zero, List.set_cons_succ]
                  refine hSkip (i := 6) rfl (by kernel_rfl) (by kernel_rfl) (by kernel_rfl) (by rfl) hH ?_
                  simp only [Act.put, List.setIfInBounds_toArray, List.set_cons_zero, List.set_cons_succ]
                  refine hSkip (i := 7) rfl (by kernel_rfl) (by kernel_rfl) (by kernel_rfl) (by rfl) hH ?_
                  simp only [Act.put, List.setIfInBounds_toArray, List.set_cons_zero, List.set_cons_succ]
                  refine hTake (i := 8) (v := ?_) rfl (by kernel_rfl) (by kernel_rfl) (by kernel_rfl) (by rfl) ?_ hH ?_
                  rotate_left
                  · intro W hW; (try dsimp only at hW); go_simp <;> with_reducible rfl
                  simp only [Act.put, List.setIfInBounds_toArray, List.set_cons_zero, List.set_cons_succ]
                  refine wpAnyH_done (by kernel_rfl) ?_ _
                  refine NoPanic.normal ?_
                  have hB' := hH
                  clear hH
                  have hP' : wy.drew.heap[w2.heap.size]? = some _ := hPx
                  go_wp2
                  go_roundw
                  case rel => exact ⟨j + 1, by omega, by go_num, hP', hB'⟩
                  case measure => simp [intOf]; omega
                · have he := HF2.out rfl
                  simp only [Ch.Bf.mk.injEq] at he
                  obtain ⟨rfl, rfl, rfl⟩ := he
                  have hnq := fun W => neqBef rk rh rv W
                  clear HF2
                  go_wp2_with fail
                  refine wp_region_noPanic ?_
                  refine wp_region_held_drew (S := fun W' => W'.cell? ⟨P, 0, none⟩ = some (.int .i64 rk) ∧ W'.cell? ⟨P, 1, none⟩ = some (.bool rh) ∧ W'.cell? ⟨P, 2, none⟩ = some (.int .i64 rv) ∧ W'.cell? ⟨bb, bo + j * 3, none⟩ = some (.int .i64 rk) ∧ W'.cell? ⟨bb, bo + j * 3 + 1, none⟩ = some (.bool rh) ∧ W'.cell? ⟨bb, bo + j * 3 + 2, none⟩ = some (.int .i64 rv) ∧ Below w2.heap.size w2 W') (by kernel_rfl) (⟨t0, t1, t2, e0, e1, e2, hBx.drew⟩) (fun hH => ?_)
                  refine hTake (i := 0) (v := ?_) rfl (by kernel_rfl) (by kernel_rfl) (by kernel_rfl) (by rfl) ?_ hH ?_
                  rotate_left
                  · intro W hW; (try dsimp only at hW); go_simp <;> with_reducible rfl
                  simp only [Act.put, List.setIfInBounds_toArray, List.set_cons_zero, List.set_cons_succ]
                  refine hTake (i := 1) (v := ?_) rfl (by kernel_rfl) (by kernel_rfl) (by kernel_rfl) (by rfl) ?_ hH ?_
                  rotate_left
                  · intro W hW; (try dsimp only at hW); go_simp <;> with_reducible rfl
                  simp only [Act.put, List.setIfInBounds_toArray, List.set_cons_zero, List.set_cons_succ]
                  refine hTake (i := 2) (v := ?_) rfl (by kernel_rfl) (by kernel_rfl) (by kernel_rfl) (by rfl) ?_ hH ?_
                  rotate_left
                  · intro W hW; (try dsimp only at hW); go_simp <;> with_reducible rfl
                  simp only [Act.put, List.setIfInBounds_toArray, List.set_cons_zero, List.set_cons_succ]
                  refine hTake (i := 3) (v := ?_) rfl (by kernel_rfl) (by kernel_rfl) (by kernel_rfl) (by rfl) ?_ hH ?_
                  rotate_left
                  · intro W hW; (try dsimp only at hW); go_simp <;> with_reducible rfl
                  simp only [Act.put, List.setIfInBounds_toArray, List.set_cons_zero, List.set_cons_succ]
                  refine hTake (i := 4) (v := ?_) rfl (by kernel_rfl) (by kernel_rfl) (by kernel_rfl) (by rfl) ?_ hH ?_
                  rotate_left
                  · intro W hW; (try dsimp only at hW); go_simp <;> with_reducible rfl
                  simp only [Act.put, List.setIfInBounds_toArray, List.set_cons_zero, List.set_cons_succ]
                  refine hTake (i := 5) (v := ?_) rfl (by kernel_rfl) (by kernel_rfl) (by kernel_rfl) (by rfl) ?_ hH ?_
                  rotate_left
                  · intro W hW; (try dsimp only at hW); go_simp <;> with_reducible rfl
                  simp only [Act.put, List.setIfInBounds_toArray, List.set_cons_zero, List.set_cons_succ]
                  refine hTake (i := 6) (v := ?_) rfl (by kernel_rfl) (by kernel_rfl) (by kernel_rfl) (by rfl) ?_ hH ?_
                  rotate_left
                  · intro W hW; (try dsimp only at hW); go_simp <;> with_reducible rfl
                  simp only [Act.put, List.setIfInBounds_toArray, List.set_cons_zero, List.set_cons_succ]
                  refine hTake (i := 7) (v := ?_) rfl (by kernel_rfl) (by kernel_rfl) (by kernel_rfl) (by rfl) ?_ hH ?_
                  rotate_left
                  · intro W hW; (try dsimp only at hW); go_simp <;> with_reducible rfl
                  simp only [Act.put, List.setIfInBounds_toArray, List.set_cons_zero, List.set_cons_succ]
                  refine hTake (i := 8) (v := ?_) rfl (by kernel_rfl) (by kernel_rfl) (by kernel_rfl) (by rfl) ?_ hH ?_
                  rotate_left
                  · intro W hW; (try dsimp only at hW); go_simp <;> with_reducible rfl
                  simp only [Act.put, List.setIfInBounds_toArray, List.set_cons_zero, List.set_cons_succ]
                  refine wpAnyH_done (by kernel_rfl) ?_ _
                  refine NoPanic.normal ?_
                  have hB' := hH.2.2.2.2.2.2
                  clear hH
                  have hP' : wy.drew.heap[w2.heap.size]? = some _ := hPx
                  go_wp2
                  go_roundw
                  case rel => exact ⟨j + 1, by omega, by go_num, hP', hB'⟩
                  case measure => simp [intOf]; omega
        · obtain rfl : i = k := by omega
          obtain ⟨x0, x1, x2⟩ := undo_box hP
          have lx := lt_of_cell x0
          clear HFST
          go_wp2_with fail
          refine (RU _ _ _ _ ((o2.below hB).lv hsz)).mono ?_
          rintro e w5 ⟨a5, c5, rfl, o5, b5⟩
          have hfd5 := fun W => fieldRs1 0 a5 mG c5 W
          have B5 := hB.trans (b5.mono hB.size)
          go_wp2_with fail
          refine (SS _ (o1.below B5) (owns_below ob B5)).mono ?_
          rintro e w6 ⟨a6, m6, c6, r6, p6, q6, rfl, o6, b6⟩
          have hfd6 := fun W => fieldUr1 0 a6 m6 c6 r6 p6 q6 W
          have o5 := owns_below o5 b6
          have B6 := B5.trans (b6.mono B5.size)
          go_wp2_with fail
          refine (SR _ _ _ _ (o6.lv hsz)).mono ?_
          rintro e w7 ⟨a7, m7, c7, rfl, hm7, o7, b7⟩
          have hfd7 := fun W => fieldRs1 0 a7 m7 c7 W
          have o5 := owns_below o5 b7
          have B7 := B6.trans (b7.mono B6.size)
          have LW := lwRows_any a5 a7 mG c5 m7 c7 ls'.flatten ls'.flatten _ (owns_cells o5) (owns_cells o7) hmGb hm7
          rw [Ch.sameL_self] at LW
          go_wp2_with fail
          refine LW.mono ?_
          rintro e w8 ⟨rfl, b8⟩
          have B8 := B7.trans (b8.mono B7.size)
          go_wp2
          go_ret
          exact ⟨rfl, bE.trans (B8.mono bE.size)⟩
end Go.Proofs.Ythfanfnbjldddaa


/- Arguments that came in, opened: a list of bytes, a struct of seven fields, a log of two lists of bytes. -/
namespace Go.Proofs.Ythfanfnbjldddaa
open Go.ChangeShapes Go.WideShapes Go.ChangeAt Go.RowKit Go.Joins Go.Deep

theorem Try.own : ownKnob Try.prog.godebug = none := by kernel_rfl
theorem Try.laidOut : laidOutB Try.prog = true := by kernel_rfl

theorem array7 {α : Type} {cs : Array α} (h : cs.size = 7) : ∃ c0 c1 c2 c3 c4 c5 c6, cs = #[c0, c1, c2, c3, c4, c5, c6] := by
  obtain ⟨l⟩ := cs
  match l, h with
  | [c0, c1, c2, c3, c4, c5, c6], _ => exact ⟨c0, c1, c2, c3, c4, c5, c6, rfl⟩

section
variable {H : Type} {enc : TypeId × Value → H} {P : Program} {w : World} {base : Nat} {spare : Nat → Bool} {held : Bool}

theorem open_agg7 {r : Reach} {b0 : Nat} {t : TypeId} {f0 f1 f2 f3 f4 f5 f6 : Field} {v : Value} {d : DataW H} {p : List MemPlace} (hs : P.underlying t = some (.struct #[f0, f1, f2, f3, f4, f5, f6])) (hone : oneCellFields P #[f0, f1, f2, f3, f4, f5, f6] = true) (hC : P.cellsOf t = 7)
    (hv : Value.okWide P w r b0 t v) (h : DataW.Trod enc P w base spare held t v d p) :
    ∃ (v0 v1 v2 v3 v4 v5 v6 : Value) (y0 y1 y2 y3 y4 y5 y6 : DataW H × List MemPlace) (n : Nat), v = .agg #[v0, v1, v2, v3, v4, v5, v6] ∧
      DataW.trod enc P w base spare held n f0.type [v0] = some y0 ∧ DataW.trod enc P w base spare held n f1.type [v1] = some y1 ∧ DataW.trod enc P w base spare held n f2.type [v2] = some y2 ∧ DataW.trod enc P w base spare held n f3.type [v3] = some y3 ∧
      DataW.trod enc P w base spare held n f4.type [v4] = some y4 ∧ DataW.trod enc P w base spare held n f5.type [v5] = some y5 ∧ DataW.trod enc P w base spare held n f6.type [v6] = some y6 := by
  obtain ⟨cs, rfl, hsz⟩ := okWide_struct hs hv
  obtain ⟨c0, c1, c2, c3, c4, c5, c6, rfl⟩ := array7 (hsz.trans hC)
  obtain ⟨fuel, hf⟩ := h
  obtain ⟨xs, n, _, _, hl, hlen, hf⟩ := DataW.trod_struct hs hf
  obtain ⟨o0, k0⟩ := hone_of hone 0 f0 rfl
  obtain ⟨o1, k1⟩ := hone_of hone 1 f1 rfl
  obtain ⟨o2, k2⟩ := hone_of hone 2 f2 rfl
  obtain ⟨o3, k3⟩ := hone_of hone 3 f3 rfl
  obtain ⟨o4, k4⟩ := hone_of hone 4 f4 rfl
  obtain ⟨o5, k5⟩ := hone_of hone 5 f5 rfl
  obtain ⟨o6, k6⟩ := hone_of hone 6 f6 rfl
  match xs, hlen with
  | [y0, y1, y2, y3, y4, y5, y6], _ =>
    exact ⟨c0, c1, c2, c3, c4, c5, c6, y0, y1, y2, y3, y4, y5, y6, n, rfl,
      by simpa [Value.cells, o0, k0] using hf 0 f0 rfl, by simpa [Value.cells, o1, k1] using hf 1 f1 rfl, by simpa [Value.cells, o2, k2] using hf 2 f2 rfl, by simpa [Value.cells, o3, k3] using hf 3 f3 rfl,
      by simpa [Value.cells, o4, k4] using hf 4 f4 rfl, by simpa [Value.cells, o5, k5] using hf 5 f5 rfl, by simpa [Value.cells, o6, k6] using hf 6 f6 rfl⟩
end

/-- A list of bytes that came in, opened. -/
theorem open_bytesF {H : Type} {enc : TypeId × Value → H} {w : World} {base : Nat} {spare : Nat → Bool} {held : Bool} {a : Option Addr} {len cap fuel : Nat} {y : DataW H × List MemPlace}
    (hk : Try.prog.cellsOf 5 = 1) (hf : DataW.trod enc Try.prog w base spare held fuel 22 [.slice a len cap] = some y) : (∃ zs, CellsAt w a len (bts zs) ∧ IsB zs) ∧ len ≤ cap := by
  rcases open_ints Try.underlying22 Try.underlying5 hk hf with ⟨hcs, _⟩ | ⟨x, l, c, zs, hcs, _, hl, hm, hz, _, hcell, hwz⟩
  · simp at hcs
    obtain ⟨rfl, rfl, rfl⟩ := hcs
    exact ⟨⟨[], ⟨rfl, fun h => absurd h (by simp)⟩, fun i => by simp⟩, Nat.le_refl _⟩
  · simp at hcs
    obtain ⟨rfl, rfl, rfl⟩ := hcs
    have hle : len ≤ zs.length := by rw [hz]; split <;> omega
    refine ⟨⟨zs.take len, ⟨by simp [bts, Nat.min_eq_left hle], fun hpos => ?_⟩, ?_⟩, by omega⟩
    · obtain ⟨b, off, spot⟩ := x
      have hc0 := hcell 0 (by omega)
      have hspot : spot = none := by simpa [Addr.add] using World.cell?_spot hc0
      subst hspot
      refine ⟨b, off, rfl, fun i hi => ?_⟩
      have := hcell i (by omega)
      rw [add_plain] at this
      rw [this]
      simp [bts, hi, List.getD, show i < zs.length by omega]
    · have := range_u8 (zs := zs.take len) (fun n hn => hwz n (List.mem_of_mem_take hn))
      simpa [IsB, List.getD] using this

theorem open_bytes {H : Type} {enc : TypeId × Value → H} {w : World} {base : Nat} {spare : Nat → Bool} {held : Bool} {a : Option Addr} {len cap : Nat} {d : DataW H} {p : List MemPlace}
    (hk : Try.prog.cellsOf 5 = 1) (h : DataW.Trod enc Try.prog w base spare held 22 (.slice a len cap) d p) : ∃ zs, CellsAt w a len (bts zs) ∧ IsB zs := by
  obtain ⟨fuel, hf⟩ := h
  exact (open_bytesF hk (by simpa [Value.cells] using hf)).1
end Go.Proofs.Ythfanfnbjldddaa

