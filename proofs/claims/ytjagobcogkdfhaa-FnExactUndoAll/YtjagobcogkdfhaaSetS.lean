
/- SetValue of the model. -/
import Derived.Test.YtjagobcogkdfhaaSetV
import Derived.Test.YtjagobcogkdfhaaMapM
namespace Go.Proofs.Ytjagobcogkdfhaa
open Go.RowKit

theorem rowSeven {W : World} {g : Nat} {t : TypeId} {u0 u1 u2 u3 u4 u5 u6 : Value} (h : W.heap[g]? = some (.cells #[u0, u1, u2, u3, u4, u5, u6] t (0, 0))) :
    (W.cell? ⟨g, 0, none⟩ = some u0 ∧ W.cell? ⟨g, 1, none⟩ = some u1 ∧ W.cell? ⟨g, 2, none⟩ = some u2 ∧ W.cell? ⟨g, 3, none⟩ = some u3 ∧ W.cell? ⟨g, 4, none⟩ = some u4 ∧ W.cell? ⟨g, 5, none⟩ = some u5 ∧ W.cell? ⟨g, 6, none⟩ = some u6) ∧ ∀ o, W.frozen? ⟨g, o, none⟩ = false :=
  ⟨⟨cell_of_row _ _ _ _ _ _ h, cell_of_row _ _ _ _ _ _ h, cell_of_row _ _ _ _ _ _ h, cell_of_row _ _ _ _ _ _ h, cell_of_row _ _ _ _ _ _ h, cell_of_row _ _ _ _ _ _ h, cell_of_row _ _ _ _ _ _ h⟩, fun o => by simp [World.frozen?, h]⟩
theorem below_store7 {B : Nat} {w w' : World} (h : Below B w w') {q : Nat} (hq : B ≤ q) (v0 v1 v2 v3 v4 v5 v6 : Value) : Below B w (((((((w'.setCell ⟨q, 0, none⟩ v0).setCell ⟨q, 1, none⟩ v1).setCell ⟨q, 2, none⟩ v2).setCell ⟨q, 3, none⟩ v3).setCell ⟨q, 4, none⟩ v4).setCell ⟨q, 5, none⟩ v5).setCell ⟨q, 6, none⟩ v6) :=
  ((((((h.setCell (p := ⟨q, 0, none⟩) hq v0).setCell (p := ⟨q, 1, none⟩) hq v1).setCell (p := ⟨q, 2, none⟩) hq v2).setCell (p := ⟨q, 3, none⟩) hq v3).setCell (p := ⟨q, 4, none⟩) hq v4).setCell (p := ⟨q, 5, none⟩) hq v5).setCell (p := ⟨q, 6, none⟩) hq v6
theorem OwnV.store7 {w : World} {B m : Nat} {lv : Value} {vs : List Value} {ls : List (List Ch.Row)} (h : OwnV w B lv m vs ls) {q : Nat} (hq : q < B) (v0 v1 v2 v3 v4 v5 v6 : Value) : OwnV (((((((w.setCell ⟨q, 0, Option.none⟩ v0).setCell ⟨q, 1, Option.none⟩ v1).setCell ⟨q, 2, Option.none⟩ v2).setCell ⟨q, 3, Option.none⟩ v3).setCell ⟨q, 4, Option.none⟩ v4).setCell ⟨q, 5, Option.none⟩ v5).setCell ⟨q, 6, Option.none⟩ v6) B lv m vs ls :=
  ((((((h.store3 hq v0).store3 hq v1).store3 hq v2).store3 hq v3).store3 hq v4).store3 hq v5).store3 hq v6

set_option linter.unusedSimpArgs false in
set_option maxRecDepth 20000 in
set_option maxHeartbeats 4000000 in
theorem l8Set_any (a : Option Addr) (n cap : Nat) (tx key : Int) (has : Bool) (v : Int) (ls : List (List Ch.Row)) (w : World) (h : LvAt w a n ls) (hg : Ch.leavesFault ls = 0) (hk : Ch.inB key 0 99 = true) :
    Calls Try.prog 110 #[.slice a n cap, .int .i64 tx, .int .i64 key, .bool has, .int .i64 v] w fun e w' => ∃ a' m c', e = .returned (.tuple #[.slice a' m c', .agg #[.int .i64 2, .int .i64 tx, .int .i64 key, .bool (Ch.bf key (Ch.has ls key)).h, .int .i64 (Ch.bf key (Ch.has ls key)).v, .bool has, .int .i64 v], .int .i64 (Ch.setLs ls key has v).1]) ∧ OwnLv w' w.heap.size (.slice a' m c') m (Ch.setLs ls key has v).2 ∧ Below w.heap.size w w' := by
  have hs := Ch.good_size hg
  have ha := Ch.asked_of hg hk
  have hgl := good_leaves (key := key) h.len.out (by rw [ha]; rfl)
  have BI := fun W hW => l8Before_any a n cap key ls W hW hs hgl
  have kA : ∀ o, Below w.heap.size w (w.alloc o) := fun o => (Below.refl _ _).alloc (Nat.le_refl _) o
  generalize Ch.bf key (Ch.has ls key) = bb at *
  obtain ⟨bk, bh, bv⟩ := bb
  cases has
  · have FI := fun W hW => specFind_any a n cap key ls W hW hs hgl
    have PI := fun W hW => specPut_any a n cap ls key 0 true W hW hs hg
    have CI := fun W hW => specCopy_any a n cap ls W hW hs hgl
    have HS1 := hid (fun hf => (show Ch.setLs ls key false v = (0, Ch.put ls ⟨key, 0, true⟩) by unfold Ch.setLs; rw [if_neg Bool.false_ne_true, if_pos hf]))
    have HS0 := hid (fun hf => Ch.setLs_none (ls := ls) (key := key) (v := v) hf)
    generalize Ch.put ls ⟨key, 0, true⟩ = P at *
    generalize Ch.setLs ls key false v = X at *
    go_enter Try.func110, Try.ntmps110
    go_wp2_with fail
    refine (BI _ (h.below (kA _))).mono ?_
    rintro e w1 ⟨rfl, b1⟩
    have hR := block_below b1 (heap_alloc_new w _)
    have bE := below_box b1
    clear b1 BI
    have kB : ∀ o o', Below w1.heap.size w1 ((w1.alloc o).alloc o') := fun o o' => ((Below.refl _ _).alloc (Nat.le_refl _) o).alloc (by simp) o'
    go_wp2_with fail
    refine (FI _ (h.below (bE.trans ((kB _ _).mono bE.size)))).mono ?_
    rintro e w2 ⟨⟨rk, rv, rg⟩, ok, rfl, his, b2⟩
    have hT := block_below b2 (heap_alloc_new _ _)
    have hR2 := block_below b2 (block_below (kB _ _) hR)
    have bF := (bE.trans ((kB _ _).mono bE.size)).trans (b2.mono (Nat.le_trans bE.size (kB _ _).size))
    have hz1 := (Array.getElem?_eq_some_iff.1 hR).1
    have z2 := b2.size
    simp at z2 hT
    have kC : Below w2.heap.size w2 (w2.alloc (.cells #[.int .i64 rk, .int .i64 rv, .bool rg] 33)) := (Below.refl _ _).alloc (Nat.le_refl _) _
    replace hT := block_below kC hT
    replace hR2 := block_below kC hR2
    replace bF := bF.trans (kC.mono bF.size)
    clear kC hR b2 FI
    simp only [FindIs] at his
    rcases his with ⟨rfl, hf⟩ | ⟨rfl, hf⟩
    · have HX := hid (HS1.out (by rw [hf]; rfl))
      clear HS1 HS0 CI hf
      have hzz : w.heap.size < (w2.alloc (.cells #[.int .i64 rk, .int .i64 rv, .bool rg] 33)).heap.size := (Array.getElem?_eq_some_iff.1 hR2).1
      obtain ⟨⟨y0, y1, y2, y3, y4, y5, y6⟩, _⟩ := rowSeven hT
      go_wp2
      go_region_with (go_at_call 169; refine (PI _ (h.below bF.drew)).mono ?_; rintro e w3 ⟨a3, m3, c3, rfl, own3, b3⟩; have b4 : Below (w2.alloc (.cells #[.int .i64 rk, .int .i64 rv, .bool rg] 33)).heap.size (w2.alloc (.cells #[.int .i64 rk, .int .i64 rv, .bool rg] 33)) w3 := ⟨b3.os, b3.tape, b3.output, b3.size, b3.block⟩; have hR3 := block_below b4 hR2; have y0 := keep_cell b4 y0; have y1 := keep_cell b4 y1; have y2 := keep_cell b4 y2; have y3 := keep_cell b4 y3; have y4 := keep_cell b4 y4; have y5 := keep_cell b4 y5; have y6 := keep_cell b4 y6; obtain ⟨⟨x0, x1, x2, x3, x4, x5, x6⟩, fx⟩ := rowSeven hR3; have f0 := fx 0; have f1 := fx 1; have f2 := fx 2; have f3 := fx 3; have f4 := fx 4; have f5 := fx 5; have f6 := fx 6; clear fx)
      all_goals
        have bG := bF.trans (b4.mono bF.size)
        obtain ⟨vs, own3⟩ := own3.told
        have own4 := (own3.store7 (q := w.heap.size) hzz (.int .i64 2) (.int .i64 tx) (.int .i64 key) (.bool bh) (.int .i64 bv) (.bool false) (.int .i64 v)).base (B' := w.heap.size) (Nat.le_of_lt hzz)
        have bH := below_store7 bG (q := w.heap.size) (Nat.le_refl _) (.int .i64 2) (.int .i64 tx) (.int .i64 key) (.bool bh) (.int .i64 bv) (.bool false) (.int .i64 v)
        go_wp2
        exact bodyPost_ret (v := .tuple #[.slice a3 m3 c3, .agg #[.int .i64 2, .int .i64 tx, .int .i64 key, .bool bh, .int .i64 bv, .bool false, .int .i64 v], .int .i64 0]) (by simp [results, Try.results110, go_sem, x0, x1, x2, x3, x4, x5, x6]) rfl ⟨a3, m3, c3, by rw [HX.out], by rw [HX.out]; exact own4.own, bH⟩
    · have HX := hid (HS0.out hf)
      clear HS1 HS0 PI hf
      have hzz : w.heap.size < (w2.alloc (.cells #[.int .i64 rk, .int .i64 rv, .bool rg] 33)).heap.size := (Array.getElem?_eq_some_iff.1 hR2).1
      obtain ⟨⟨y0, y1, y2, y3, y4, y5, y6⟩, _⟩ := rowSeven hT
      go_wp2
      go_region_with (go_at_call 171; refine (CI _ (h.below bF.drew)).mono ?_; rintro e w3 ⟨a3, c3, rfl, own3, b3⟩; have b4 : Below (w2.alloc (.cells #[.int .i64 rk, .int .i64 rv, .bool rg] 33)).heap.size (w2.alloc (.cells #[.int .i64 rk, .int .i64 rv, .bool rg] 33)) w3 := ⟨b3.os, b3.tape, b3.output, b3.size, b3.block⟩; have hR3 := block_below b4 hR2; have y0 := keep_cell b4 y0; have y1 := keep_cell b4 y1; have y2 := keep_cell b4 y2; have y3 := keep_cell b4 y3; have y4 := keep_cell b4 y4; have y5 := keep_cell b4 y5; have y6 := keep_cell b4 y6; obtain ⟨⟨x0, x1, x2, x3, x4, x5, x6⟩, fx⟩ := rowSeven hR3; have f0 := fx 0; have f1 := fx 1; have f2 := fx 2; have f3 := fx 3; have f4 := fx 4; have f5 := fx 5; have f6 := fx 6; clear fx)
      all_goals
        have bG := bF.trans (b4.mono bF.size)
        obtain ⟨vs, own3⟩ := own3.told
        have own4 := (own3.store7 (q := w.heap.size) hzz (.int .i64 2) (.int .i64 tx) (.int .i64 key) (.bool bh) (.int .i64 bv) (.bool false) (.int .i64 v)).base (B' := w.heap.size) (Nat.le_of_lt hzz)
        have bH := below_store7 bG (q := w.heap.size) (Nat.le_refl _) (.int .i64 2) (.int .i64 tx) (.int .i64 key) (.bool bh) (.int .i64 bv) (.bool false) (.int .i64 v)
        go_wp2
        exact bodyPost_ret (v := .tuple #[.slice a3 n c3, .agg #[.int .i64 2, .int .i64 tx, .int .i64 key, .bool bh, .int .i64 bv, .bool false, .int .i64 v], .int .i64 0]) (by simp [results, Try.results110, go_sem, x0, x1, x2, x3, x4, x5, x6]) rfl ⟨a3, n, c3, by rw [HX.out], by rw [HX.out]; exact own4.own, bH⟩
  · have PI := fun W hW => specPut_any a n cap ls key v false W hW hs hg
    have HS : Hid (Ch.setLs ls key true v = if 60 < (Ch.put ls ⟨key, v, false⟩).length then (2, []) else (0, Ch.put ls ⟨key, v, false⟩)) := rfl
    generalize Ch.put ls ⟨key, v, false⟩ = P at *
    generalize Ch.setLs ls key true v = X at *
    go_enter Try.func110, Try.ntmps110
    go_wp2_with fail
    refine (BI _ (h.below (kA _))).mono ?_
    rintro e w1 ⟨rfl, b1⟩
    have hR := block_below b1 (heap_alloc_new w _)
    have bE := below_box b1
    clear b1 BI
    have kB : ∀ o o', Below w1.heap.size w1 ((w1.alloc o).alloc o') := fun o o' => ((Below.refl _ _).alloc (Nat.le_refl _) o).alloc (by simp) o'
    go_wp2_with fail
    refine (PI _ (h.below (bE.trans ((kB _ _).mono bE.size)))).mono ?_
    rintro e w2 ⟨a2, m2, c2, rfl, own2, b2⟩
    have hT := block_below b2 (heap_alloc_new _ _)
    have hR2 := block_below b2 (block_below (kB _ _) hR)
    have bF := (bE.trans ((kB _ _).mono bE.size)).trans (b2.mono (Nat.le_trans bE.size (kB _ _).size))
    have hz1 := (Array.getElem?_eq_some_iff.1 hR).1
    have z2 := b2.size
    simp at z2 hT
    obtain ⟨⟨x0, x1, x2, x3, x4, x5, x6⟩, fx⟩ := rowSeven hR2
    obtain ⟨⟨y0, y1, y2, y3, y4, y5, y6⟩, fy⟩ := rowSeven hT
    have f0 := fx 0
    have f1 := fx 1
    have f2 := fx 2
    have f3 := fx 3
    have f4 := fx 4
    have f5 := fx 5
    have f6 := fx 6
    clear fx fy hT hR2 hR PI
    obtain ⟨vs, own2⟩ := own2.told
    have HM : Hid (m2 = P.length) := own2.1.symm
    have own3 := (own2.store7 (q := w.heap.size) (by simp; omega) (.int .i64 2) (.int .i64 tx) (.int .i64 key) (.bool bh) (.int .i64 bv) (.bool true) (.int .i64 v)).base (B' := w.heap.size) (by simp; omega)
    have bG := below_store7 bF (q := w.heap.size) (Nat.le_refl _) (.int .i64 2) (.int .i64 tx) (.int .i64 key) (.bool bh) (.int .i64 bv) (.bool true) (.int .i64 v)
    by_cases h60 : 60 < m2
    · rw [if_pos (by have := HM.out; omega)] at HS
      go_wp2
      go_region
      all_goals
        go_wp2
        exact bodyPost_ret (v := .tuple #[.slice none 0 0, .agg #[.int .i64 2, .int .i64 tx, .int .i64 key, .bool bh, .int .i64 bv, .bool true, .int .i64 v], .int .i64 2]) (by simp [results, Try.results110, go_sem, x0, x1, x2, x3, x4, x5, x6]) rfl ⟨none, 0, 0, by rw [HS.out], by rw [HS.out]; exact OwnLv.nil _ _, bG.drew⟩
    · rw [if_neg (by have := HM.out; omega)] at HS
      go_wp2
      go_region
      all_goals
        go_wp2
        exact bodyPost_ret (v := .tuple #[.slice a2 m2 c2, .agg #[.int .i64 2, .int .i64 tx, .int .i64 key, .bool bh, .int .i64 bv, .bool true, .int .i64 v], .int .i64 0]) (by simp [results, Try.results110, go_sem, x0, x1, x2, x3, x4, x5, x6]) rfl ⟨a2, m2, c2, by rw [HS.out], by rw [HS.out]; exact (own3.below (Below.refl _ _).drew).own, bG.drew⟩

theorem Ch.setF_lv {ls : List (List Ch.Row)} {tx : Int} {bs : List Ch.Bf} {c : Int} (h : Ch.leavesFault ls = c) (hc : (c != 0) = true) : Ch.setF ls tx bs = c := by rw [Ch.setF, h, if_pos hc]
theorem Ch.setF_tx {ls : List (List Ch.Row)} {tx : Int} {bs : List Ch.Bf} (h : Ch.leavesFault ls = 0) (ht : Ch.inB tx 1 999 = false) : Ch.setF ls tx bs = 3 := by rw [Ch.setF, h, ht]; rfl
theorem Ch.setF_bf {ls : List (List Ch.Row)} {tx : Int} {b : Ch.Bf} (h : Ch.leavesFault ls = 0) (ht : Ch.inB tx 1 999 = true) : Ch.setF ls tx [b] = b.fault := by rw [Ch.setF, h, ht, Ch.bef_single]; rfl

set_option linter.unusedSimpArgs false in
set_option maxRecDepth 20000 in
set_option maxHeartbeats 4000000 in
theorem specSetValue_any (a : Option Addr) (n cap : Nat) (tx key : Int) (has : Bool) (v : Int) (ls : List (List Ch.Row)) (w : World) (h : LvAt w a n ls) (hs : Ch.lvSize ls ≤ 1048576) :
    Calls Try.prog 38 #[.slice a n cap, .int .i64 tx, .int .i64 key, .bool has, .int .i64 v] w fun e w' => ∃ a' m c' r p q, e = .returned (.agg #[.int .i64 (Ch.setR ls tx key has v).1, .slice a' m c', .slice r p q]) ∧ OwnU w' w.heap.size (.slice a' m c') m (Ch.setR ls tx key has v).2.1 (.slice r p q) p (Ch.setR ls tx key has v).2.2 ∧ Below w.heap.size w w' := by
  have b0 : Below w.heap.size w (w.alloc (.cells #[.int .i64 0, .slice none 0 0, .slice none 0 0] 61)) := (Below.refl _ _).alloc (Nat.le_refl _) _
  have LI := fun W hW => specLv_any a n cap ls W hW hs
  have IT := fun W => l2Txn_any tx W
  have IK := fun W => key_any key W
  have IV := fun W => value_any v W
  obtain ⟨c, HC⟩ : ∃ c, Hid (Ch.leavesFault ls = c) := ⟨_, rfl⟩
  rw [HC.out] at LI
  by_cases h0 : c = 0
  rotate_left
  · have hc : (c != 0) = true := by simpa using h0
    have HX := hid (Ch.setR_code (tx := tx) (key := key) (has := has) (v := v) (Ch.setF_lv HC.out hc) hc)
    generalize Ch.setR ls tx key has v = X at *
    go_enter Try.func38, Try.ntmps38
    go_wp2_with fail
    refine (LI _ (h.below b0)).mono ?_
    rintro e w1 ⟨rfl, b1⟩
    obtain ⟨x0, x1, x2, f0, f1, f2⟩ := three_box b1
    have hz := lt_of_cell x0
    have bE := b0.trans (b1.mono b0.size)
    clear b1 LI
    go_wp2
    exact bodyPost_ret (v := .agg #[.int .i64 c, .slice none 0 0, .slice none 0 0]) (by simp [results, Try.results38, go_sem, x0, x1, x2, hz]) rfl ⟨none, 0, 0, none, 0, 0, by rw [HX.out], by rw [HX.out]; exact OwnU.none _ _, ((bE.setCell (p := ⟨w.heap.size, 0, none⟩) (Nat.le_refl _) _).setCell (p := ⟨w.heap.size, 1, none⟩) (Nat.le_refl _) _).setCell (p := ⟨w.heap.size, 2, none⟩) (Nat.le_refl _) _⟩
  subst h0
  cases ht : Ch.inB tx 1 999
  · have HX := hid (Ch.setR_code (key := key) (has := has) (v := v) (Ch.setF_tx (bs := [⟨key, has, v⟩]) HC.out ht) rfl)
    generalize Ch.setR ls tx key has v = X at *
    rw [ht] at IT
    go_enter Try.func38, Try.ntmps38
    go_wp2_with fail
    refine (LI _ (h.below b0)).mono ?_
    rintro e w1 ⟨rfl, b1⟩
    obtain ⟨x0, x1, x2, f0, f1, f2⟩ := three_box b1
    have hz := lt_of_cell x0
    have bE := b0.trans (b1.mono b0.size)
    clear b1 LI
    go_wp2_with fail
    refine (IT _).mono ?_
    rintro e w' ⟨rfl, rfl⟩
    go_wp2
    exact bodyPost_ret (v := .agg #[.int .i64 3, .slice none 0 0, .slice none 0 0]) (by simp [results, Try.results38, go_sem, x0, x1, x2, hz]) rfl ⟨none, 0, 0, none, 0, 0, by rw [HX.out], by rw [HX.out]; exact OwnU.none _ _, ((bE.setCell (p := ⟨w.heap.size, 0, none⟩) (Nat.le_refl _) _).setCell (p := ⟨w.heap.size, 1, none⟩) (Nat.le_refl _) _).setCell (p := ⟨w.heap.size, 2, none⟩) (Nat.le_refl _) _⟩
  cases hk : Ch.inB key 0 99
  · have HX := hid (Ch.setR_code (key := key) (has := has) (v := v) ((Ch.setF_bf (b := ⟨key, has, v⟩) HC.out ht).trans (Ch.bf_range (by rw [hk]; rfl))) rfl)
    generalize Ch.setR ls tx key has v = X at *
    rw [ht] at IT
    rw [hk] at IK
    go_enter Try.func38, Try.ntmps38
    go_wp2_with fail
    refine (LI _ (h.below b0)).mono ?_
    rintro e w1 ⟨rfl, b1⟩
    obtain ⟨x0, x1, x2, f0, f1, f2⟩ := three_box b1
    have hz := lt_of_cell x0
    have bE := b0.trans (b1.mono b0.size)
    clear b1 LI
    go_wp2_with fail
    refine (IT _).mono ?_
    rintro e w' ⟨rfl, rfl⟩
    go_wp2_with fail
    refine (IK _).mono ?_
    rintro e w' ⟨rfl, rfl⟩
    go_wp2
    exact bodyPost_ret (v := .agg #[.int .i64 3, .slice none 0 0, .slice none 0 0]) (by simp [results, Try.results38, go_sem, x0, x1, x2, hz]) rfl ⟨none, 0, 0, none, 0, 0, by rw [HX.out], by rw [HX.out]; exact OwnU.none _ _, ((bE.setCell (p := ⟨w.heap.size, 0, none⟩) (Nat.le_refl _) _).setCell (p := ⟨w.heap.size, 1, none⟩) (Nat.le_refl _) _).setCell (p := ⟨w.heap.size, 2, none⟩) (Nat.le_refl _) _⟩
  cases hv : Ch.inB v 0 9999
  · have HX := hid (Ch.setR_code (key := key) (has := has) (v := v) ((Ch.setF_bf (b := ⟨key, has, v⟩) HC.out ht).trans (Ch.bf_range (by rw [hk, hv]; rfl))) rfl)
    generalize Ch.setR ls tx key has v = X at *
    rw [ht] at IT
    rw [hk] at IK
    rw [hv] at IV
    go_enter Try.func38, Try.ntmps38
    go_wp2_with fail
    refine (LI _ (h.below b0)).mono ?_
    rintro e w1 ⟨rfl, b1⟩
    obtain ⟨x0, x1, x2, f0, f1, f2⟩ := three_box b1
    have hz := lt_of_cell x0
    have bE := b0.trans (b1.mono b0.size)
    clear b1 LI
    go_wp2_with fail
    refine (IT _).mono ?_
    rintro e w' ⟨rfl, rfl⟩
    go_wp2_with fail
    refine (IK _).mono ?_
    rintro e w' ⟨rfl, rfl⟩
    go_wp2_with fail
    refine (IV _).mono ?_
    rintro e w' ⟨rfl, rfl⟩
    go_wp2
    exact bodyPost_ret (v := .agg #[.int .i64 3, .slice none 0 0, .slice none 0 0]) (by simp [results, Try.results38, go_sem, x0, x1, x2, hz]) rfl ⟨none, 0, 0, none, 0, 0, by rw [HX.out], by rw [HX.out]; exact OwnU.none _ _, ((bE.setCell (p := ⟨w.heap.size, 0, none⟩) (Nat.le_refl _) _).setCell (p := ⟨w.heap.size, 1, none⟩) (Nat.le_refl _) _).setCell (p := ⟨w.heap.size, 2, none⟩) (Nat.le_refl _) _⟩
  cases hf : (!has && v != 0)
  rotate_left
  · have HX := hid (Ch.setR_code (key := key) (has := has) (v := v) ((Ch.setF_bf (b := ⟨key, has, v⟩) HC.out ht).trans (Ch.bf_form (by rw [hk, hv]; rfl) hf)) rfl)
    obtain ⟨rfl, hv0⟩ : has = false ∧ (v != 0) = true := by cases has <;> simp_all
    clear hf
    generalize Ch.setR ls tx key false v = X at *
    rw [ht] at IT
    rw [hk] at IK
    rw [hv] at IV
    go_enter Try.func38, Try.ntmps38
    go_wp2_with fail
    refine (LI _ (h.below b0)).mono ?_
    rintro e w1 ⟨rfl, b1⟩
    obtain ⟨x0, x1, x2, f0, f1, f2⟩ := three_box b1
    have hz := lt_of_cell x0
    have bE := b0.trans (b1.mono b0.size)
    clear b1 LI
    go_wp2_with fail
    refine (IT _).mono ?_
    rintro e w' ⟨rfl, rfl⟩
    go_wp2_with fail
    refine (IK _).mono ?_
    rintro e w' ⟨rfl, rfl⟩
    go_wp2_with fail
    refine (IV _).mono ?_
    rintro e w' ⟨rfl, rfl⟩
    go_wp2
    exact bodyPost_ret (v := .agg #[.int .i64 1, .slice none 0 0, .slice none 0 0]) (by simp [results, Try.results38, go_sem, x0, x1, x2, hz]) rfl ⟨none, 0, 0, none, 0, 0, by rw [HX.out], by rw [HX.out]; exact OwnU.none _ _, ((bE.setCell (p := ⟨w.heap.size, 0, none⟩) (Nat.le_refl _) _).setCell (p := ⟨w.heap.size, 1, none⟩) (Nat.le_refl _) _).setCell (p := ⟨w.heap.size, 2, none⟩) (Nat.le_refl _) _⟩
  have HF := hid ((Ch.setF_bf (b := ⟨key, has, v⟩) HC.out ht).trans (Ch.bf_fine (by rw [hk, hv]; rfl) hf))
  have SI := fun W hW => l8Set_any a n cap tx key has v ls W hW HC.out hk
  have HX1 := hid (fun c hs hc => Ch.setR_many (c := c) HF.out hs hc)
  have HX0 := hid (fun hs => Ch.setR_ok HF.out hs)
  have HR : Hid (Ch.setRec 2 ls tx key has v = ⟨2, tx, key, (Ch.bf key (Ch.has ls key)).h, (Ch.bf key (Ch.has ls key)).v, has, v⟩) := rfl
  rw [ht] at IT
  rw [hk] at IK
  rw [hv] at IV
  generalize Ch.bf key (Ch.has ls key) = bb at *
  generalize Ch.setRec 2 ls tx key has v = rr at *
  generalize Ch.setR ls tx key has v = X at *
  generalize Ch.setLs ls key has v = Y at *
  obtain ⟨yc, yl⟩ := Y
  obtain ⟨bk, bh, bv⟩ := bb
  simp only at HR HX1 HX0 SI
  clear HF HC ht hk hv
  by_cases hy : yc = 0
  · subst hy
    replace HX0 := hid (HX0.out rfl)
    clear HX1
    have hcase : has = true ∨ (has = false ∧ (v != 0) = false) := by cases has <;> simp_all
    rcases hcase with rfl | ⟨rfl, hv0⟩
    · go_enter Try.func38, Try.ntmps38
      go_wp2_with fail
      refine (LI _ (h.below b0)).mono ?_
      rintro e w1 ⟨rfl, b1⟩
      obtain ⟨x0, x1, x2, f0, f1, f2⟩ := three_box b1
      have hz := lt_of_cell x0
      have bE := b0.trans (b1.mono b0.size)
      clear b1 LI
      go_wp2_with fail
      refine (IT _).mono ?_
      rintro e w' ⟨rfl, rfl⟩
      go_wp2_with fail
      refine (IK _).mono ?_
      rintro e w' ⟨rfl, rfl⟩
      go_wp2_with fail
      refine (IV _).mono ?_
      rintro e w' ⟨rfl, rfl⟩
      go_wp2_with fail
      refine (SI _ (h.below bE)).mono ?_
      rintro e w2 ⟨a2, m2, c2, rfl, own2, b2⟩
      replace x0 := keep_cell b2 x0
      replace x1 := keep_cell b2 x1
      replace x2 := keep_cell b2 x2
      replace f0 := ((bcell b2).2 w.heap.size 0 hz).trans f0
      replace f1 := ((bcell b2).2 w.heap.size 1 hz).trans f1
      replace f2 := ((bcell b2).2 w.heap.size 2 hz).trans f2
      have hz2 := lt_of_cell x0
      have z2 := b2.size
      have bF := bE.trans (b2.mono bE.size)
      have hz4 : w.heap.size < w2.heap.size + 1 := by omega
      have hz5 : w.heap.size < w2.heap.size + 1 + 1 := by omega
      clear SI b2
      go_wp2
      refine bodyPost_ret (v := .agg #[.int .i64 0, .slice a2 m2 c2, .slice (some ⟨w2.heap.size + 1, 0, none⟩) 1 1]) (by simp [results, Try.results38, go_sem, x0, x1, x2, hz2, hz4]) rfl ⟨a2, m2, c2, _, 1, 1, by rw [HX0.out], ?_, ?_⟩
      · rw [HX0.out, HR.out]
        obtain ⟨vs, own3⟩ := own2.told
        have own4 := ((own3.store3 (q := w.heap.size) (o := 0) hz (.int .i64 0)).store3 (q := w.heap.size) (o := 1) hz (.slice a2 m2 c2)).store3 (q := w.heap.size) (o := 2) hz (.slice (some ⟨w2.heap.size + 1, 0, none⟩) 1 1)
        generalize hW : ((w2.setCell ⟨w.heap.size, 0, none⟩ (.int .i64 0)).setCell ⟨w.heap.size, 1, none⟩ (.slice a2 m2 c2)).setCell ⟨w.heap.size, 2, none⟩ (.slice (some ⟨w2.heap.size + 1, 0, none⟩) 1 1) = W at own4 ⊢
        have hsz : W.heap.size = w2.heap.size := by rw [← hW]; simp
        have k2 := (Below.refl W.heap.size W).alloc (Nat.le_refl _) (.cells #[.int .i64 2, .int .i64 tx, .int .i64 key, .bool bh, .int .i64 bv, .bool true, .int .i64 v] 71)
        exact (OwnU.make own4 k2 ⟨2, tx, key, bh, bv, true, v⟩ (H := w2.heap.size + 1) (by simp; omega) (by omega)).base (Nat.le_of_lt hz)
      · exact Below.alloc (Below.alloc (((bF.setCell (p := ⟨w.heap.size, 0, none⟩) (Nat.le_refl _) _).setCell (p := ⟨w.heap.size, 1, none⟩) (Nat.le_refl _) _).setCell (p := ⟨w.heap.size, 2, none⟩) (Nat.le_refl _) _) (by simp; omega) _) (by simp; omega) _
    · go_enter Try.func38, Try.ntmps38
      go_wp2_with fail
      refine (LI _ (h.below b0)).mono ?_
      rintro e w1 ⟨rfl, b1⟩
      obtain ⟨x0, x1, x2, f0, f1, f2⟩ := three_box b1
      have hz := lt_of_cell x0
      have bE := b0.trans (b1.mono b0.size)
      clear b1 LI
      go_wp2_with fail
      refine (IT _).mono ?_
      rintro e w' ⟨rfl, rfl⟩
      go_wp2_with fail
      refine (IK _).mono ?_
      rintro e w' ⟨rfl, rfl⟩
      go_wp2_with fail
      refine (IV _).mono ?_
      rintro e w' ⟨rfl, rfl⟩
      go_wp2_with fail
      refine (SI _ (h.below bE)).mono ?_
      rintro e w2 ⟨a2, m2, c2, rfl, own2, b2⟩
      replace x0 := keep_cell b2 x0
      replace x1 := keep_cell b2 x1
      replace x2 := keep_cell b2 x2
      replace f0 := ((bcell b2).2 w.heap.size 0 hz).trans f0
      replace f1 := ((bcell b2).2 w.heap.size 1 hz).trans f1
      replace f2 := ((bcell b2).2 w.heap.size 2 hz).trans f2
      have hz2 := lt_of_cell x0
      have z2 := b2.size
      have bF := bE.trans (b2.mono bE.size)
      have hz4 : w.heap.size < w2.heap.size + 1 := by omega
      have hz5 : w.heap.size < w2.heap.size + 1 + 1 := by omega
      clear SI b2
      go_wp2
      refine bodyPost_ret (v := .agg #[.int .i64 0, .slice a2 m2 c2, .slice (some ⟨w2.heap.size + 1, 0, none⟩) 1 1]) (by simp [results, Try.results38, go_sem, x0, x1, x2, hz2, hz4]) rfl ⟨a2, m2, c2, _, 1, 1, by rw [HX0.out], ?_, ?_⟩
      · rw [HX0.out, HR.out]
        obtain ⟨vs, own3⟩ := own2.told
        have own4 := ((own3.store3 (q := w.heap.size) (o := 0) hz (.int .i64 0)).store3 (q := w.heap.size) (o := 1) hz (.slice a2 m2 c2)).store3 (q := w.heap.size) (o := 2) hz (.slice (some ⟨w2.heap.size + 1, 0, none⟩) 1 1)
        generalize hW : ((w2.setCell ⟨w.heap.size, 0, none⟩ (.int .i64 0)).setCell ⟨w.heap.size, 1, none⟩ (.slice a2 m2 c2)).setCell ⟨w.heap.size, 2, none⟩ (.slice (some ⟨w2.heap.size + 1, 0, none⟩) 1 1) = W at own4 ⊢
        have hsz : W.heap.size = w2.heap.size := by rw [← hW]; simp
        have k2 := (Below.refl W.heap.size W).alloc (Nat.le_refl _) (.cells #[.int .i64 2, .int .i64 tx, .int .i64 key, .bool bh, .int .i64 bv, .bool false, .int .i64 v] 71)
        exact (OwnU.make own4 k2 ⟨2, tx, key, bh, bv, false, v⟩ (H := w2.heap.size + 1) (by simp; omega) (by omega)).base (Nat.le_of_lt hz)
      · exact Below.alloc (Below.alloc (((bF.setCell (p := ⟨w.heap.size, 0, none⟩) (Nat.le_refl _) _).setCell (p := ⟨w.heap.size, 1, none⟩) (Nat.le_refl _) _).setCell (p := ⟨w.heap.size, 2, none⟩) (Nat.le_refl _) _) (by simp; omega) _) (by simp; omega) _
  · replace HX1 := hid (HX1.out yc rfl (by simpa using hy))
    clear HX0
    have hyc : (yc != 0) = true := by simpa using hy
    have hcase : has = true ∨ (has = false ∧ (v != 0) = false) := by cases has <;> simp_all
    rcases hcase with rfl | ⟨rfl, hv0⟩
    · go_enter Try.func38, Try.ntmps38
      go_wp2_with fail
      refine (LI _ (h.below b0)).mono ?_
      rintro e w1 ⟨rfl, b1⟩
      obtain ⟨x0, x1, x2, f0, f1, f2⟩ := three_box b1
      have hz := lt_of_cell x0
      have bE := b0.trans (b1.mono b0.size)
      clear b1 LI
      go_wp2_with fail
      refine (IT _).mono ?_
      rintro e w' ⟨rfl, rfl⟩
      go_wp2_with fail
      refine (IK _).mono ?_
      rintro e w' ⟨rfl, rfl⟩
      go_wp2_with fail
      refine (IV _).mono ?_
      rintro e w' ⟨rfl, rfl⟩
      go_wp2_with fail
      refine (SI _ (h.below bE)).mono ?_
      rintro e w2 ⟨a2, m2, c2, rfl, own2, b2⟩
      replace x0 := keep_cell b2 x0
      replace x1 := keep_cell b2 x1
      replace x2 := keep_cell b2 x2
      replace f0 := ((bcell b2).2 w.heap.size 0 hz).trans f0
      replace f1 := ((bcell b2).2 w.heap.size 1 hz).trans f1
      replace f2 := ((bcell b2).2 w.heap.size 2 hz).trans f2
      have hz2 := lt_of_cell x0
      have bF := bE.trans (b2.mono bE.size)
      clear SI b2 own2
      go_wp2
      refine bodyPost_ret (v := .agg #[.int .i64 yc, .slice none 0 0, .slice none 0 0]) (by simp [results, Try.results38, go_sem, x0, x1, x2, hz2]) rfl ⟨none, 0, 0, none, 0, 0, by rw [HX1.out], ?_, ?_⟩
      · rw [HX1.out]
        exact OwnU.none _ _
      · exact Below.alloc (((bF.setCell (p := ⟨w.heap.size, 0, none⟩) (Nat.le_refl _) _).setCell (p := ⟨w.heap.size, 1, none⟩) (Nat.le_refl _) _).setCell (p := ⟨w.heap.size, 2, none⟩) (Nat.le_refl _) _) (by simp; omega) _
    · go_enter Try.func38, Try.ntmps38
      go_wp2_with fail
      refine (LI _ (h.below b0)).mono ?_
      rintro e w1 ⟨rfl, b1⟩
      obtain ⟨x0, x1, x2, f0, f1, f2⟩ := three_box b1
      have hz := lt_of_cell x0
      have bE := b0.trans (b1.mono b0.size)
      clear b1 LI
      go_wp2_with fail
      refine (IT _).mono ?_
      rintro e w' ⟨rfl, rfl⟩
      go_wp2_with fail
      refine (IK _).mono ?_
      rintro e w' ⟨rfl, rfl⟩
      go_wp2_with fail
      refine (IV _).mono ?_
      rintro e w' ⟨rfl, rfl⟩
      go_wp2_with fail
      refine (SI _ (h.below bE)).mono ?_
      rintro e w2 ⟨a2, m2, c2, rfl, own2, b2⟩
      replace x0 := keep_cell b2 x0
      replace x1 := keep_cell b2 x1
      replace x2 := keep_cell b2 x2
      replace f0 := ((bcell b2).2 w.heap.size 0 hz).trans f0
      replace f1 := ((bcell b2).2 w.heap.size 1 hz).trans f1
      replace f2 := ((bcell b2).2 w.heap.size 2 hz).trans f2
      have hz2 := lt_of_cell x0
      have bF := bE.trans (b2.mono bE.size)
      clear SI b2 own2
      go_wp2
      refine bodyPost_ret (v := .agg #[.int .i64 yc, .slice none 0 0, .slice none 0 0]) (by simp [results, Try.results38, go_sem, x0, x1, x2, hz2]) rfl ⟨none, 0, 0, none, 0, 0, by rw [HX1.out], ?_, ?_⟩
      · rw [HX1.out]
        exact OwnU.none _ _
      · exact Below.alloc (((bF.setCell (p := ⟨w.heap.size, 0, none⟩) (Nat.le_refl _) _).setCell (p := ⟨w.heap.size, 1, none⟩) (Nat.le_refl _) _).setCell (p := ⟨w.heap.size, 2, none⟩) (Nat.le_refl _) _) (by simp; omega) _
end Go.Proofs.Ytjagobcogkdfhaa
