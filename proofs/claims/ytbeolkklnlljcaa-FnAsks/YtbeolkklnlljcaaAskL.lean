
/- AskLock of the model; the law FnExactAskLock. -/
import Derived.Test.YtbeolkklnlljcaaModelZ
import Derived.Test.YtbeolkklnlljcaaFreZ
namespace Go.Proofs.Ytbeolkklnlljcaa
open Go.RowKit

theorem Ch.askC_R (ls : List Ch.Lock) (t r m : Int) : Ch.askC ls t r m = if Ch.askedR ls t r != 0 then Ch.askedR ls t r else if !Ch.inB m 1 5 then 3 else if Ch.waitsB ls t then 10 else 0 := by
  unfold Ch.askC Ch.askedT Ch.askedR
  cases hf : (Ch.locksFault ls != 0) <;> cases h1 : Ch.inB t 1 999 <;> cases h2 : Ch.inB r 0 100 <;> cases h3 : Ch.inB m 1 5 <;> simp_all
theorem Ch.askedR_lf {ls : List Ch.Lock} {t r : Int} (h : Ch.askedR ls t r = 0) : Ch.locksFault ls = 0 := by
  unfold Ch.askedR at h
  split at h
  · next hh => simp [h] at hh
  · next hh => simpa using hh
theorem Ch.askR_X {ls : List Ch.Lock} {t r m : Int} (h : Ch.askC ls t r m = 0) : Ch.askR ls t r m = Ch.askX ls t r m := by
  unfold Ch.askR Ch.askX Ch.askLs; rw [if_neg (by simp [h])]
theorem Ch.askR_size (ls : List Ch.Lock) (t r m : Int) (hg : Ch.locksFault ls = 0) : Ch.lkSize (Ch.askX ls t r m).2.2 ≤ 5000 := by
  unfold Ch.askX
  split
  · simp [Ch.lkSize, Ch.lkSum]
  · exact Ch.ask_size hg t r m

theorem l1In_at {v lo hi : Int} {b : Bool} (h : Ch.inB v lo hi = b) (w : World) : Calls Try.prog 70 #[.int .i64 v, .int .i64 lo, .int .i64 hi] w fun e w' => e = .returned (.bool b) ∧ w' = w := h ▸ in_any v lo hi w

set_option linter.unusedSimpArgs false in
set_option maxRecDepth 20000 in
set_option maxHeartbeats 1000000 in
theorem specAskW_any (a : Option Addr) (n cap : Nat) (t res mode : Int) (ls : List Ch.Lock) (w : World) (h : LkAt w a n ls) (hs : Ch.lkSize ls ≤ 1048576) :
    Calls Try.prog 16 #[.slice a n cap, .int .i64 t, .int .i64 res, .int .i64 mode] w fun e w' => ∃ a1 m1 c1 a2 m2 c2, e = .returned (.agg #[.int .i64 (Ch.askR ls t res mode).1, .bool (Ch.askR ls t res mode).2.1, .slice a1 m1 c1, .slice a2 m2 c2]) ∧ w'.ownsRow w.heap.size 2 1 (.slice a1 m1 c1) m1 (icells ([] : List Int)) ∧ LkIn w.heap.size w'.heap.size w' a2 m2 (Ch.askR ls t res mode).2.2 ∧ Below w.heap.size w w' := by
  have IA := fun W hW => l6Asked_any a n cap t res ls W hW hs
  have IW := fun W hW => l6Waits_any a n cap t ls W hW hs
  have kA : ∀ o, Below w.heap.size w (w.alloc o) := fun o => (Below.refl _ _).alloc (Nat.le_refl _) o
  have HCR := hid (Ch.askC_R ls t res mode)
  obtain ⟨c, HC⟩ : ∃ c, Hid (Ch.askedR ls t res = c) := ⟨_, rfl⟩
  rw [HC.out] at IA HCR
  by_cases h0 : c = 0
  · subst h0
    have HG := hid (Ch.askedR_lf HC.out)
    cases hm : Ch.inB mode 1 5
    · have IM := fun W => l1In_at hm W
      rw [Ch.askR_c (c := 3) (by rw [HCR.out, hm]; rfl) (by omega)]
      clear hm HC HCR
      go_enter Try.func16, Try.ntmps16
      go_wp2_with fail
      refine (IA _ (h.below (kA _))).mono ?_
      rintro e w1 ⟨rfl, b1⟩
      have hR := heap_below b1 (heap_alloc_new w _)
      have BW := below_box b1
      have lz := (Array.getElem?_eq_some_iff.1 hR).1
      go_wp2_with fail
      refine (IM _).mono ?_
      rintro e w2 ⟨rfl, hw2⟩
      obtain rfl : w1 = w2 := hw2.symm
      obtain ⟨⟨x0, x1, x2, x3⟩, f0, f1, f2, f3⟩ := row4 hR
      go_wp2
      exact bodyPost_ret (v := .agg #[.int .i64 3, .bool false, .slice none 0 0, .slice none 0 0]) (by simp [results, Try.results16, go_sem, x0, x1, x2, x3]) rfl ⟨none, 0, 0, none, 0, 0, rfl, World.ownsRow_nil _ _ _ _, LkIn.nil _ _ _, (BW.setCell (p := ⟨w.heap.size, 0, none⟩) (Nat.le_refl _) _ |>.setCell (p := ⟨w.heap.size, 1, none⟩) (Nat.le_refl _) _ |>.setCell (p := ⟨w.heap.size, 2, none⟩) (Nat.le_refl _) _ |>.setCell (p := ⟨w.heap.size, 3, none⟩) (Nat.le_refl _) _)⟩
    have IM := fun W => l1In_at hm W
    have HMB := hid hm
    rcases Ch.waits_is ls t with ⟨hb, hl, hv, _⟩ | ⟨hb, k, hk, hl, hv, _⟩
    · have HAC : Ch.askC ls t res mode = 0 := by rw [HCR.out, hm, hb]; rfl
      rw [hl] at IW
      have IK := fun W hW => l6Ask_any a n cap t res mode ls W hW hs HG.out HMB.out
      have HSZ := Ch.askR_size ls t res mode HG.out
      rw [← Ch.askR_X HAC] at IK HSZ
      have HSZ := hid HSZ
      clear hm HC HCR hb hl hv HAC
      generalize (Ch.askR ls t res mode).1 = cd at *
      generalize (Ch.askR ls t res mode).2.1 = gd at *
      generalize (Ch.askR ls t res mode).2.2 = rl at *
      go_enter Try.func16, Try.ntmps16
      go_wp2_with fail
      refine (IA _ (h.below (kA _))).mono ?_
      rintro e w1 ⟨rfl, b1⟩
      have hR := heap_below b1 (heap_alloc_new w _)
      have BW := below_box b1
      have lz := (Array.getElem?_eq_some_iff.1 hR).1
      go_wp2_with fail
      refine (IM _).mono ?_
      rintro e w2 ⟨rfl, hw2⟩
      obtain rfl : w1 = w2 := hw2.symm
      go_wp2_with fail
      refine (IW _ (h.below BW)).mono ?_
      rintro e w2 ⟨rfl, hw2⟩
      obtain rfl : w1 = w2 := hw2.symm
      go_wp2_with fail
      refine (IK _ (h.below BW)).mono ?_
      rintro e w2 ⟨a2, m2, c2, rfl, ⟨vs, own⟩, b2⟩
      have hR2 := heap_below b2 hR
      obtain ⟨⟨x0, x1, x2, x3⟩, f0, f1, f2, f3⟩ := row4 hR2
      have lr := lt_of_cell x0
      have BW := BW.trans (b2.mono BW.size)
      have hwl : w.heap.size < w1.heap.size := lz
      have hk := own.lkIn (by have := HSZ.out; omega)
      clear own
      go_wp2
      refine bodyPost_ret (v := .agg #[.int .i64 cd, .bool gd, .slice none 0 0, .slice a2 m2 c2]) (by simp [results, Try.results16, go_sem, x0, x1, x2, x3]) rfl ⟨none, 0, 0, a2, m2, c2, rfl, World.ownsRow_nil _ _ _ _, ?_, (BW.setCell (p := ⟨w.heap.size, 0, none⟩) (Nat.le_refl _) _ |>.setCell (p := ⟨w.heap.size, 1, none⟩) (Nat.le_refl _) _ |>.setCell (p := ⟨w.heap.size, 2, none⟩) (Nat.le_refl _) _ |>.setCell (p := ⟨w.heap.size, 3, none⟩) (Nat.le_refl _) _)⟩
      exact ((((hk.setAt hwl _).setAt hwl _).setAt hwl _).setAt hwl _).mono (by omega) (by simp)
    · have hr0 : 0 ≤ Ch.waitsL ls t := by rw [hl]; exact (Ch.one_good ((Ch.locks_good HG.out).1 k hk)).1
      rw [Ch.askR_c (c := 10) (by rw [HCR.out, hm, hb]; rfl) (by omega)]
      clear hm HC HCR hb hl hv
      generalize Ch.waitsL ls t = wl at *
      go_enter Try.func16, Try.ntmps16
      go_wp2_with fail
      refine (IA _ (h.below (kA _))).mono ?_
      rintro e w1 ⟨rfl, b1⟩
      have hR := heap_below b1 (heap_alloc_new w _)
      have BW := below_box b1
      have lz := (Array.getElem?_eq_some_iff.1 hR).1
      go_wp2_with fail
      refine (IM _).mono ?_
      rintro e w2 ⟨rfl, hw2⟩
      obtain rfl : w1 = w2 := hw2.symm
      go_wp2_with fail
      refine (IW _ (h.below BW)).mono ?_
      rintro e w2 ⟨rfl, hw2⟩
      obtain rfl : w1 = w2 := hw2.symm
      obtain ⟨⟨x0, x1, x2, x3⟩, f0, f1, f2, f3⟩ := row4 hR
      go_wp2
      exact bodyPost_ret (v := .agg #[.int .i64 10, .bool false, .slice none 0 0, .slice none 0 0]) (by simp [results, Try.results16, go_sem, x0, x1, x2, x3]) rfl ⟨none, 0, 0, none, 0, 0, rfl, World.ownsRow_nil _ _ _ _, LkIn.nil _ _ _, (BW.setCell (p := ⟨w.heap.size, 0, none⟩) (Nat.le_refl _) _ |>.setCell (p := ⟨w.heap.size, 1, none⟩) (Nat.le_refl _) _ |>.setCell (p := ⟨w.heap.size, 2, none⟩) (Nat.le_refl _) _ |>.setCell (p := ⟨w.heap.size, 3, none⟩) (Nat.le_refl _) _)⟩
  · rw [Ch.askR_c (c := c) (by rw [HCR.out, if_pos (by simpa using h0)]) h0]
    clear HC HCR
    go_enter Try.func16, Try.ntmps16
    go_wp2_with fail
    refine (IA _ (h.below (kA _))).mono ?_
    rintro e w1 ⟨rfl, b1⟩
    have hR := heap_below b1 (heap_alloc_new w _)
    have BW := below_box b1
    have lz := (Array.getElem?_eq_some_iff.1 hR).1
    obtain ⟨⟨x0, x1, x2, x3⟩, f0, f1, f2, f3⟩ := row4 hR
    go_wp2
    exact bodyPost_ret (v := .agg #[.int .i64 c, .bool false, .slice none 0 0, .slice none 0 0]) (by simp [results, Try.results16, go_sem, x0, x1, x2, x3]) rfl ⟨none, 0, 0, none, 0, 0, rfl, World.ownsRow_nil _ _ _ _, LkIn.nil _ _ _, (BW.setCell (p := ⟨w.heap.size, 0, none⟩) (Nat.le_refl _) _ |>.setCell (p := ⟨w.heap.size, 1, none⟩) (Nat.le_refl _) _ |>.setCell (p := ⟨w.heap.size, 2, none⟩) (Nat.le_refl _) _ |>.setCell (p := ⟨w.heap.size, 3, none⟩) (Nat.le_refl _) _)⟩

theorem implAskW_any (a : Option Addr) (n cap : Nat) (t res mode : Int) (ls : List Ch.Lock) (w : World) (h : LkAt w a n ls) (hs : Ch.lkSize ls ≤ 1048576) :
    Calls Try.prog 15 #[.slice a n cap, .int .i64 t, .int .i64 res, .int .i64 mode] w fun e w' => ∃ a1 m1 c1 a2 m2 c2 vs, e = .returned (.agg #[.int .i64 (Ch.askR ls t res mode).1, .bool (Ch.askR ls t res mode).2.1, .slice a1 m1 c1, .slice a2 m2 c2]) ∧ LkRes w' w.heap.size a1 m1 c1 ([] : List Int) a2 m2 c2 (Ch.askR ls t res mode).2.2 vs ∧ Below w.heap.size w w' := by
  refine (implAsk_any a n cap t res mode ls w h hs).mono ?_
  rintro e w' ⟨a2, m2, c2, vs, rfl, h1, h2⟩
  exact ⟨none, 0, 0, a2, m2, c2, vs, rfl, h1, h2⟩

end Go.Proofs.Ytbeolkklnlljcaa
