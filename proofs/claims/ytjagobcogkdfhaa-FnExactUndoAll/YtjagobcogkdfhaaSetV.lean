
/- SetValue: the program's and the model's. -/
import Derived.Test.YtjagobcogkdfhaaSetI
namespace Go.Proofs.Ytjagobcogkdfhaa
open Go.RowKit

/-- One before that was just made, as a list of one. -/
theorem new_bef {w : World} {r : Ch.Bf} {t : TypeId} {H : Nat} (hH : H = w.heap.size) : CellsAt (w.alloc (.cells #[.int .i64 r.k, .bool r.h, .int .i64 r.v] t)) (some ⟨H, 0, none⟩) (1 * 3) (bfcells [r]) := by
  subst hH
  refine ⟨rfl, fun _ => ⟨_, _, rfl, fun i hi => ?_⟩⟩
  rw [Nat.zero_add]
  have := cell_of_row (w.alloc (.cells #[.int .i64 r.k, .bool r.h, .int .i64 r.v] t)) _ i _ _ _ (heap_alloc_new w _)
  rw [this]
  simp [bfcells]
theorem OwnV.store3 {w : World} {B m : Nat} {lv : Value} {vs : List Value} {ls : List (List Ch.Row)} (h : OwnV w B lv m vs ls) {q o : Nat} (hq : q < B) (u : Value) : OwnV (w.setCell ⟨q, o, Option.none⟩ u) B lv m vs ls :=
  h.store (fun g hg => by have := (owns_lt h.2.1 g hg).1; omega) (fun i x g hx hg => by have := (h.lt i x g hx hg).1; omega)
/-- A record that is made behind leaves. -/
theorem OwnU.make {W W' : World} {B H m : Nat} {lv : Value} {vs : List Value} {ls : List (List Ch.Row)} (own : OwnV W B lv m vs ls) (k : Below W.heap.size W W') (r : Ch.Rec) (hH : H = W'.heap.size) (hB : B ≤ W.heap.size) :
    OwnU (W'.alloc (.cells #[.int .i64 r.kd, .int .i64 r.tx, .int .i64 r.ky, .bool r.hd, .int .i64 r.ol, .bool r.hs, .int .i64 r.nw] 71)) B lv m ls (.slice (some ⟨H, 0, Option.none⟩) 1 1) 1 [r] := by
  refine ⟨vs, B, W.heap.size, (own.below k).below ((Below.refl _ _).alloc (Nat.le_refl _) _), own_rec r hH (Nat.le_trans hB k.size), Nat.le_refl _, by have := k.size; simp; omega, owns_lt own.2.1, own.lt, fun g hg => ?_⟩
  simp [Value.ownBlock] at hg
  subst hg
  exact .inr (by rw [hH]; exact k.size)

set_option linter.unusedSimpArgs false in
set_option maxHeartbeats 4000000 in
theorem implSetValue_any (a : Option Addr) (n cap : Nat) (tx key : Int) (has : Bool) (v : Int) (ls : List (List Ch.Row)) (w : World) (h : LvAt w a n ls) (hs : Ch.lvSize ls ≤ 1048576) :
    Calls Try.prog 37 #[.slice a n cap, .int .i64 tx, .int .i64 key, .bool has, .int .i64 v] w fun e w' => ∃ a' m c' r p q, e = .returned (.agg #[.int .i64 (Ch.setR ls tx key has v).1, .slice a' m c', .slice r p q]) ∧ OwnU w' w.heap.size (.slice a' m c') m (Ch.setR ls tx key has v).2.1 (.slice r p q) p (Ch.setR ls tx key has v).2.2 ∧ Below w.heap.size w w' := by
  have b0 : ∀ t, Below w.heap.size w ((w.alloc (.cells #[.int .i64 0, .slice none 0 0, .slice none 0 0] 61)).alloc (.cells #[.int .i64 key, .bool has, .int .i64 v] t)) := fun t => Below.alloc (Below.alloc (Below.refl _ w) (Nat.le_refl _) _) (by simp) _
  have nb := fun t => new_bef (w := w.alloc (.cells #[.int .i64 0, .slice none 0 0, .slice none 0 0] 61)) (r := ⟨key, has, v⟩) (t := t) (H := w.heap.size + 1) (by simp)
  have FI := fun ab nb cb W hW hb hn => setFault_any a n cap tx ab nb cb ls [⟨key, has, v⟩] W hW hs hb hn
  obtain ⟨c, HC⟩ : ∃ c, Hid (Ch.setF ls tx [⟨key, has, v⟩] = c) := ⟨_, rfl⟩
  rw [HC.out] at FI
  by_cases h0 : c = 0
  · subst h0
    obtain ⟨hg, _, hk, hv, _⟩ := Ch.setF_zero HC.out
    have PI := fun W hW => putValue_any a n cap key has v ls W hW hg hk hv
    have BI := fun W hW => implBeforeOf_any a n cap key ls W hW hs
    rw [Ch.bfOf_ok (by rw [Ch.asked_of hg hk]; rfl)] at BI
    have HR : Hid (Ch.setRec 2 ls tx key has v = ⟨2, tx, key, (Ch.bf key (Ch.has ls key)).h, (Ch.bf key (Ch.has ls key)).v, has, v⟩) := rfl
    have HX1 := hid (fun c hs hc => Ch.setR_many (c := c) HC.out hs hc)
    have HX0 := hid (fun hs => Ch.setR_ok HC.out hs)
    generalize Ch.bf key (Ch.has ls key) = bb at *
    generalize Ch.setRec 2 ls tx key has v = rr at *
    generalize Ch.setR ls tx key has v = X at *
    generalize Ch.setLs ls key has v = Y at *
    obtain ⟨yc, yl⟩ := Y
    obtain ⟨bk, bh, bv⟩ := bb
    simp only at HR HX1 HX0 PI BI
    clear HC hg hk hv
    go_enter Try.func37, Try.ntmps37
    go_wp2_with fail
    refine (FI _ _ _ _ (h.below (b0 _)) (nb _) (by omega)).mono ?_
    rintro e w1 ⟨rfl, b1⟩
    obtain ⟨x0, x1, x2, f0, f1, f2⟩ := three_box (below_box b1)
    have hz := lt_of_cell x0
    have bE := (b0 _).trans (b1.mono (b0 _).size)
    clear b1 FI nb
    go_wp2_with fail
    refine (PI _ (h.below bE)).mono ?_
    rintro e w2 ⟨a2, m2, c2, rfl, own2, b2⟩
    have z2 := b2.size
    replace x0 := keep_cell b2 x0
    replace x1 := keep_cell b2 x1
    replace x2 := keep_cell b2 x2
    replace f0 := ((bcell b2).2 w.heap.size 0 hz).trans f0
    replace f1 := ((bcell b2).2 w.heap.size 1 hz).trans f1
    replace f2 := ((bcell b2).2 w.heap.size 2 hz).trans f2
    have hz2 := lt_of_cell x0
    have bF := bE.trans (b2.mono bE.size)
    clear PI b2
    by_cases hy : yc = 0
    · subst hy
      replace HX0 := hid (HX0.out rfl)
      clear HX1
      have bG := bF.alloc bF.size (.cells #[.int .i64 0, .slice a2 m2 c2] 145)
      go_wp2_with fail
      refine (BI _ (h.below bG)).mono ?_
      rintro e w3 ⟨rfl, b3⟩
      have z3 := b3.size
      simp at z3
      obtain ⟨y0, y1, _, _⟩ := two_box b3
      have b3' := below_box b3
      replace x0 := keep_cell b3' x0
      replace x1 := keep_cell b3' x1
      replace x2 := keep_cell b3' x2
      replace f0 := ((bcell b3').2 w.heap.size 0 hz2).trans f0
      replace f1 := ((bcell b3').2 w.heap.size 1 hz2).trans f1
      replace f2 := ((bcell b3').2 w.heap.size 2 hz2).trans f2
      have hz3 := lt_of_cell x0
      have hy3 := lt_of_cell y0
      have own3 := own2.below b3'
      have bH := bF.trans (b3'.mono bF.size)
      clear BI b3
      have hz4 : w.heap.size < w3.heap.size + 1 := by omega
      have hz5 : w.heap.size < w3.heap.size + 1 + 1 := by omega
      have hz6 : w.heap.size < w3.heap.size + 2 := by omega
      go_wp2
      refine bodyPost_ret (v := .agg #[.int .i64 0, .slice a2 m2 c2, .slice (some ⟨w3.heap.size + 2, 0, none⟩) 1 1]) (by simp [results, Try.results37, go_sem, x0, x1, x2, hz3, Nat.lt_succ_of_lt hz3, Nat.lt_succ_of_lt (Nat.lt_succ_of_lt hz3)]) rfl ⟨a2, m2, c2, _, 1, 1, by rw [HX0.out], ?_, ?_⟩
      · rw [HX0.out, HR.out]
        obtain ⟨vs, own3⟩ := own3.told
        have own4 := ((own3.store3 (q := w.heap.size) (o := 0) hz (.int .i64 0)).store3 (q := w.heap.size) (o := 1) hz (.slice a2 m2 c2)).store3 (q := w.heap.size) (o := 2) hz (.slice (some ⟨w3.heap.size + 1 + 1, 0, none⟩) 1 1)
        generalize hW : ((w3.setCell ⟨w.heap.size, 0, none⟩ (.int .i64 0)).setCell ⟨w.heap.size, 1, none⟩ (.slice a2 m2 c2)).setCell ⟨w.heap.size, 2, none⟩ (.slice (some ⟨w3.heap.size + 1 + 1, 0, none⟩) 1 1) = W at own4 ⊢
        have hsz : W.heap.size = w3.heap.size := by rw [← hW]; simp
        have k2 := ((Below.refl W.heap.size W).alloc (Nat.le_refl _) (.cells #[.int .i64 bk, .bool bh, .int .i64 bv] 64)).alloc (by simp) (.cells #[.int .i64 2, .int .i64 tx, .int .i64 key, .bool bh, .int .i64 bv, .bool has, .int .i64 v] 71)
        exact (OwnU.make own4 k2 ⟨2, tx, key, bh, bv, has, v⟩ (H := w3.heap.size + 2) (by simp; omega) (by omega)).base (Nat.le_of_lt hz)
      · exact Below.alloc (Below.alloc (Below.alloc (((bH.setCell (p := ⟨w.heap.size, 0, none⟩) (Nat.le_refl _) _).setCell (p := ⟨w.heap.size, 1, none⟩) (Nat.le_refl _) _).setCell (p := ⟨w.heap.size, 2, none⟩) (Nat.le_refl _) _) (by simp; omega) _) (by simp; omega) _) (by simp; omega) _
    · replace HX1 := hid (HX1.out yc rfl (by simpa using hy))
      clear HX0
      have hyc : (yc != 0) = true := by simpa using hy
      go_wp2
      refine bodyPost_ret (v := .agg #[.int .i64 yc, .slice none 0 0, .slice none 0 0]) (by simp [results, Try.results37, go_sem, x0, x1, x2, hz2]) rfl ⟨none, 0, 0, none, 0, 0, by rw [HX1.out], ?_, ?_⟩
      · rw [HX1.out]
        exact OwnU.none _ _
      · exact Below.alloc (((bF.setCell (p := ⟨w.heap.size, 0, none⟩) (Nat.le_refl _) _).setCell (p := ⟨w.heap.size, 1, none⟩) (Nat.le_refl _) _).setCell (p := ⟨w.heap.size, 2, none⟩) (Nat.le_refl _) _) (by simp; omega) _
  · have hc : (c != 0) = true := by simpa using h0
    rw [Ch.setR_code HC.out hc]
    clear HC
    go_enter Try.func37, Try.ntmps37
    go_wp2_with fail
    refine (FI _ _ _ _ (h.below (b0 _)) (nb _) (by omega)).mono ?_
    rintro e w1 ⟨rfl, b1⟩
    obtain ⟨x0, x1, x2, f0, f1, f2⟩ := three_box (below_box b1)
    have hz := lt_of_cell x0
    have bE := (b0 _).trans (b1.mono (b0 _).size)
    clear b1 FI nb
    go_wp2
    exact bodyPost_ret (v := .agg #[.int .i64 c, .slice none 0 0, .slice none 0 0]) (by simp [results, Try.results37, go_sem, x0, x1, x2, hz]) rfl ⟨none, 0, 0, none, 0, 0, rfl, OwnU.none _ _, ((bE.setCell (p := ⟨w.heap.size, 0, none⟩) (Nat.le_refl _) _).setCell (p := ⟨w.heap.size, 1, none⟩) (Nat.le_refl _) _).setCell (p := ⟨w.heap.size, 2, none⟩) (Nat.le_refl _) _⟩
end Go.Proofs.Ytjagobcogkdfhaa
