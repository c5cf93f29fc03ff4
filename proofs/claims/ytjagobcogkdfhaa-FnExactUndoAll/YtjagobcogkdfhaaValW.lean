
/- ValueIn and BeforeOf, of the program and of the model. -/
import Derived.Test.YtjagobcogkdfhaaUnM
import Derived.Test.YtjagobcogkdfhaaFindI
namespace Go.Proofs.Ytjagobcogkdfhaa
open Go.RowKit

/-- A box of two cells, behind what only makes memory. -/
theorem two_box {w w1 : World} {t : TypeId} {c0 c1 : Value} (b : Below (w.alloc (.cells #[c0, c1] t)).heap.size (w.alloc (.cells #[c0, c1] t)) w1) :
    w1.cell? ⟨w.heap.size, 0, none⟩ = some c0 ∧ w1.cell? ⟨w.heap.size, 1, none⟩ = some c1 ∧ w1.frozen? ⟨w.heap.size, 0, none⟩ = false ∧ w1.frozen? ⟨w.heap.size, 1, none⟩ = false := by
  obtain ⟨cA, fA⟩ := bcell b
  have x0 := cA w.heap.size 0 (by simp)
  have x1 := cA w.heap.size 1 (by simp)
  have f0 := fA w.heap.size 0 (by simp)
  have f1 := fA w.heap.size 1 (by simp)
  simp [go_sem] at x0 x1 f0 f1
  exact ⟨x0, x1, f0, f1⟩
/-- A box of three cells, behind what only makes memory. -/
theorem three_box {w w1 : World} {t : TypeId} {c0 c1 c2 : Value} (b : Below (w.alloc (.cells #[c0, c1, c2] t)).heap.size (w.alloc (.cells #[c0, c1, c2] t)) w1) :
    w1.cell? ⟨w.heap.size, 0, none⟩ = some c0 ∧ w1.cell? ⟨w.heap.size, 1, none⟩ = some c1 ∧ w1.cell? ⟨w.heap.size, 2, none⟩ = some c2 ∧ w1.frozen? ⟨w.heap.size, 0, none⟩ = false ∧ w1.frozen? ⟨w.heap.size, 1, none⟩ = false ∧ w1.frozen? ⟨w.heap.size, 2, none⟩ = false := by
  obtain ⟨cA, fA⟩ := bcell b
  have x0 := cA w.heap.size 0 (by simp)
  have x1 := cA w.heap.size 1 (by simp)
  have x2 := cA w.heap.size 2 (by simp)
  have f0 := fA w.heap.size 0 (by simp)
  have f1 := fA w.heap.size 1 (by simp)
  have f2 := fA w.heap.size 2 (by simp)
  simp [go_sem] at x0 x1 x2 f0 f1 f2
  exact ⟨x0, x1, x2, f0, f1, f2⟩

set_option linter.unusedSimpArgs false in
set_option maxHeartbeats 2000000 in
theorem implValueIn_any (a : Option Addr) (n cap : Nat) (key : Int) (ls : List (List Ch.Row)) (w : World) (h : LvAt w a n ls) (hs : Ch.lvSize ls ≤ 1048576) :
    Calls Try.prog 40 #[.slice a n cap, .int .i64 key] w fun e w' => e = .returned (.agg #[.int .i64 (Ch.valR ls key).1, .int .i64 (Ch.valR ls key).2]) ∧ Below w.heap.size w w' := by
  have b0 : Below w.heap.size w (w.alloc (.cells #[.int .i64 0, .int .i64 0] 43)) := (Below.refl _ _).alloc (Nat.le_refl _) _
  have FI := fun W hW => implFindRow_any a n cap key ls W hW hs
  cases hc : (Ch.asked ls key != 0)
  · cases hf : Ch.findR ls key with
    | none =>
      rw [Ch.valR_none hc (Ch.has_none hf)]
      rw [Ch.findRR_none hc hf] at FI
      clear hc hf
      go_enter Try.func40, Try.ntmps40
      go_wp2_with fail
      refine (FI _ (h.below b0)).mono ?_
      rintro e w1 ⟨a', m, c', rfl, hm, own, b1⟩
      obtain ⟨x0, x1, f0, f1⟩ := two_box b1
      have hz := lt_of_cell x0
      have bE := b0.trans (b1.mono b0.size)
      clear b1 own FI
      go_wp2
      exact bodyPost_ret (v := .agg #[.int .i64 4, .int .i64 0]) (by simp [results, Try.results40, go_sem, x0, x1, hz]) rfl ⟨rfl, Below.alloc ((bE.setCell (p := ⟨w.heap.size, 0, none⟩) (Nat.le_refl _) _).setCell (p := ⟨w.heap.size, 1, none⟩) (Nat.le_refl _) _) (by simp; omega) _⟩
    | some r =>
      obtain ⟨rk, rv, rg⟩ := r
      rw [Ch.findRR_some hc hf] at FI
      cases rg
      · rw [Ch.valR_some hc (Ch.has_row hf)]
        clear hc hf
        go_enter Try.func40, Try.ntmps40
        go_wp2_with fail
        refine (FI _ (h.below b0)).mono ?_
        rintro e w1 ⟨a', m, c', rfl, hm, own, b1⟩
        obtain ⟨x0, x1, f0, f1⟩ := two_box b1
        have hz := lt_of_cell x0
        have bE := b0.trans (b1.mono b0.size)
        have hm1 : m = 1 := (owns_cells own).rlen.out
        subst hm1
        obtain ⟨b, off, rfl, q0, q1, q2⟩ := (owns_cells own).row (k := 0) (by omega)
        simp only [Nat.zero_mul, Nat.add_zero, List.getD_cons_zero] at q0 q1 q2
        have hq := lt_of_cell q0
        clear b1 own FI
        go_wp2
        exact bodyPost_ret (v := .agg #[.int .i64 0, .int .i64 rv]) (by simp [results, Try.results40, go_sem, x0, x1, hz]) rfl ⟨rfl, Below.alloc ((bE.setCell (p := ⟨w.heap.size, 0, none⟩) (Nat.le_refl _) _).setCell (p := ⟨w.heap.size, 1, none⟩) (Nat.le_refl _) _) (by simp; omega) _⟩
      · rw [Ch.valR_none hc (Ch.has_ghost hf)]
        clear hc hf
        go_enter Try.func40, Try.ntmps40
        go_wp2_with fail
        refine (FI _ (h.below b0)).mono ?_
        rintro e w1 ⟨a', m, c', rfl, hm, own, b1⟩
        obtain ⟨x0, x1, f0, f1⟩ := two_box b1
        have hz := lt_of_cell x0
        have bE := b0.trans (b1.mono b0.size)
        have hm1 : m = 1 := (owns_cells own).rlen.out
        subst hm1
        obtain ⟨b, off, rfl, q0, q1, q2⟩ := (owns_cells own).row (k := 0) (by omega)
        simp only [Nat.zero_mul, Nat.add_zero, List.getD_cons_zero] at q0 q1 q2
        have hq := lt_of_cell q0
        clear b1 own FI
        go_wp2
        exact bodyPost_ret (v := .agg #[.int .i64 4, .int .i64 0]) (by simp [results, Try.results40, go_sem, x0, x1, hz]) rfl ⟨rfl, Below.alloc ((bE.setCell (p := ⟨w.heap.size, 0, none⟩) (Nat.le_refl _) _).setCell (p := ⟨w.heap.size, 1, none⟩) (Nat.le_refl _) _) (by simp; omega) _⟩
  · rw [Ch.valR_code hc]
    rw [Ch.findRR_code hc] at FI
    generalize Ch.asked ls key = c at *
    go_enter Try.func40, Try.ntmps40
    go_wp2_with fail
    refine (FI _ (h.below b0)).mono ?_
    rintro e w1 ⟨a', m, c', rfl, hm, own, b1⟩
    obtain ⟨x0, x1, f0, f1⟩ := two_box b1
    have hz := lt_of_cell x0
    have bE := b0.trans (b1.mono b0.size)
    clear b1 own FI
    go_wp2
    exact bodyPost_ret (v := .agg #[.int .i64 c, .int .i64 0]) (by simp [results, Try.results40, go_sem, x0, x1, hz]) rfl ⟨rfl, Below.alloc ((bE.setCell (p := ⟨w.heap.size, 0, none⟩) (Nat.le_refl _) _).setCell (p := ⟨w.heap.size, 1, none⟩) (Nat.le_refl _) _) (by simp; omega) _⟩

theorem Ch.bf_some {key v : Int} : Ch.bf key (some v) = ⟨key, true, v⟩ := rfl
theorem Ch.bf_none {key : Int} : Ch.bf key none = ⟨key, false, 0⟩ := rfl

set_option linter.unusedSimpArgs false in
set_option maxHeartbeats 2000000 in
theorem implBeforeOf_any (a : Option Addr) (n cap : Nat) (key : Int) (ls : List (List Ch.Row)) (w : World) (h : LvAt w a n ls) (hs : Ch.lvSize ls ≤ 1048576) :
    Calls Try.prog 39 #[.slice a n cap, .int .i64 key] w fun e w' => e = .returned (.agg #[.int .i64 (Ch.bfOf ls key).k, .bool (Ch.bfOf ls key).h, .int .i64 (Ch.bfOf ls key).v]) ∧ Below w.heap.size w w' := by
  have b0 : ∀ t, Below w.heap.size w ((w.alloc (.cells #[.int .i64 0, .bool false, .int .i64 0] 64)).alloc (.cells #[.int .i64 key] t)) := fun t => Below.alloc (Below.alloc (Below.refl _ w) (Nat.le_refl _) _) (by simp) _
  have VI := fun W hW => implValueIn_any a n cap key ls W hW hs
  cases hc : (Ch.asked ls key != 0)
  · rw [Ch.bfOf_ok hc]
    cases hh : Ch.has ls key with
    | none =>
      rw [Ch.valR_none hc hh] at VI
      rw [Ch.bf_none]
      go_enter Try.func39, Try.ntmps39
      go_wp2_with fail
      refine (implKeys_any a n cap ls _ 1 1 [key] _ (h.below (b0 _)) hs one_key (by omega)).mono ?_
      rintro e w1 ⟨rfl, b1⟩
      obtain ⟨x0, x1, x2, f0, f1, f2⟩ := three_box (below_box b1)
      have hz := lt_of_cell x0
      have bE := (b0 _).trans (b1.mono (b0 _).size)
      rw [askedAll_one]
      generalize Ch.asked ls key = c at *
      clear b1
      go_wp2_with fail
      refine (VI _ (h.below bE)).mono ?_
      rintro e w2 ⟨rfl, b2⟩
      replace x0 := keep_cell b2 x0
      replace x1 := keep_cell b2 x1
      replace x2 := keep_cell b2 x2
      replace f0 := ((bcell b2).2 w.heap.size 0 hz).trans f0
      replace f1 := ((bcell b2).2 w.heap.size 1 hz).trans f1
      replace f2 := ((bcell b2).2 w.heap.size 2 hz).trans f2
      have hz2 := lt_of_cell x0
      have bE2 := bE.trans (b2.mono bE.size)
      clear b2 VI hc hz bE
      go_wp2
      exact bodyPost_ret (v := .agg #[.int .i64 key, .bool false, .int .i64 0]) (by simp [results, Try.results39, go_sem, x0, x1, x2, hz2]) rfl ⟨rfl, Below.alloc (((bE2.setCell (p := ⟨w.heap.size, 0, none⟩) (Nat.le_refl _) _).setCell (p := ⟨w.heap.size, 1, none⟩) (Nat.le_refl _) _).setCell (p := ⟨w.heap.size, 2, none⟩) (Nat.le_refl _) _) (by simp; omega) _⟩
    | some v =>
      rw [Ch.valR_some hc hh] at VI
      rw [Ch.bf_some]
      go_enter Try.func39, Try.ntmps39
      go_wp2_with fail
      refine (implKeys_any a n cap ls _ 1 1 [key] _ (h.below (b0 _)) hs one_key (by omega)).mono ?_
      rintro e w1 ⟨rfl, b1⟩
      obtain ⟨x0, x1, x2, f0, f1, f2⟩ := three_box (below_box b1)
      have hz := lt_of_cell x0
      have bE := (b0 _).trans (b1.mono (b0 _).size)
      rw [askedAll_one]
      generalize Ch.asked ls key = c at *
      clear b1
      go_wp2_with fail
      refine (VI _ (h.below bE)).mono ?_
      rintro e w2 ⟨rfl, b2⟩
      replace x0 := keep_cell b2 x0
      replace x1 := keep_cell b2 x1
      replace x2 := keep_cell b2 x2
      replace f0 := ((bcell b2).2 w.heap.size 0 hz).trans f0
      replace f1 := ((bcell b2).2 w.heap.size 1 hz).trans f1
      replace f2 := ((bcell b2).2 w.heap.size 2 hz).trans f2
      have hz2 := lt_of_cell x0
      have bE2 := bE.trans (b2.mono bE.size)
      clear b2 VI hc hz bE
      go_wp2
      exact bodyPost_ret (v := .agg #[.int .i64 key, .bool true, .int .i64 v]) (by simp [results, Try.results39, go_sem, x0, x1, x2, hz2]) rfl ⟨rfl, Below.alloc (((bE2.setCell (p := ⟨w.heap.size, 0, none⟩) (Nat.le_refl _) _).setCell (p := ⟨w.heap.size, 1, none⟩) (Nat.le_refl _) _).setCell (p := ⟨w.heap.size, 2, none⟩) (Nat.le_refl _) _) (by simp; omega) _⟩
  · rw [Ch.bfOf_code hc]
    go_enter Try.func39, Try.ntmps39
    go_wp2_with fail
    refine (implKeys_any a n cap ls _ 1 1 [key] _ (h.below (b0 _)) hs one_key (by omega)).mono ?_
    rintro e w1 ⟨rfl, b1⟩
    obtain ⟨x0, x1, x2, f0, f1, f2⟩ := three_box (below_box b1)
    have hz := lt_of_cell x0
    have bE := (b0 _).trans (b1.mono (b0 _).size)
    rw [askedAll_one]
    generalize Ch.asked ls key = c at *
    clear b1
    go_wp2
    exact bodyPost_ret (v := .agg #[.int .i64 0, .bool false, .int .i64 0]) (by simp [results, Try.results39, go_sem, x0, x1, x2, hz]) rfl ⟨rfl, ((bE.setCell (p := ⟨w.heap.size, 0, none⟩) (Nat.le_refl _) _).setCell (p := ⟨w.heap.size, 1, none⟩) (Nat.le_refl _) _).setCell (p := ⟨w.heap.size, 2, none⟩) (Nat.le_refl _) _⟩

set_option linter.unusedSimpArgs false in
set_option maxHeartbeats 2000000 in
theorem l8Before_any (a : Option Addr) (n cap : Nat) (key : Int) (ls : List (List Ch.Row)) (w : World) (h : LvAt w a n ls) (hs : Ch.lvSize ls ≤ 1048576) (hg : ∀ k, k < n → (ls.getD k []).length ≠ 0) :
    Calls Try.prog 130 #[.slice a n cap, .int .i64 key] w fun e w' => e = .returned (.agg #[.int .i64 (Ch.bf key (Ch.has ls key)).k, .bool (Ch.bf key (Ch.has ls key)).h, .int .i64 (Ch.bf key (Ch.has ls key)).v]) ∧ Below w.heap.size w w' := by
  have b0 : Below w.heap.size w (w.alloc (.cells #[.int .i64 0, .bool false, .int .i64 0] 64)) := (Below.refl _ _).alloc (Nat.le_refl _) _
  have FI := fun W hW => specFind_any a n cap key ls W hW hs hg
  have HR := hid (fun rk rv hf => congrArg (Ch.bf key) (Ch.has_row (ls := ls) (key := key) (rk := rk) (rv := rv) hf))
  have HG := hid (fun rk rv hf => congrArg (Ch.bf key) (Ch.has_ghost (ls := ls) (key := key) (rk := rk) (rv := rv) hf))
  have HN := hid (fun hf => congrArg (Ch.bf key) (Ch.has_none (ls := ls) (key := key) hf))
  generalize Ch.bf key (Ch.has ls key) = X at *
  go_enter Try.func130, Try.ntmps130
  go_wp2_with fail
  refine (FI _ (h.below b0)).mono ?_
  rintro e w1 ⟨⟨rk, rv, rg⟩, ok, rfl, his, b1⟩
  obtain ⟨x0, x1, x2, f0, f1, f2⟩ := three_box b1
  have hz := lt_of_cell x0
  have bE := b0.trans (b1.mono b0.size)
  clear b1 FI
  rcases his with ⟨rfl, hf⟩ | ⟨rfl, hf⟩
  · cases rg
    · have HX := hid (HR.out _ _ hf)
      clear hf HR HG HN
      go_wp2
      exact bodyPost_ret (v := .agg #[.int .i64 key, .bool true, .int .i64 rv]) (by simp [results, Try.results130, go_sem, x0, x1, x2, hz]) rfl ⟨by rw [HX.out]; rfl, Below.alloc (((bE.setCell (p := ⟨w.heap.size, 0, none⟩) (Nat.le_refl _) _).setCell (p := ⟨w.heap.size, 1, none⟩) (Nat.le_refl _) _).setCell (p := ⟨w.heap.size, 2, none⟩) (Nat.le_refl _) _) (by simp; omega) _⟩
    · have HX := hid (HG.out _ _ hf)
      clear hf HR HG HN
      go_wp2
      exact bodyPost_ret (v := .agg #[.int .i64 key, .bool false, .int .i64 0]) (by simp [results, Try.results130, go_sem, x0, x1, x2, hz]) rfl ⟨by rw [HX.out]; rfl, Below.alloc (((bE.setCell (p := ⟨w.heap.size, 0, none⟩) (Nat.le_refl _) _).setCell (p := ⟨w.heap.size, 1, none⟩) (Nat.le_refl _) _).setCell (p := ⟨w.heap.size, 2, none⟩) (Nat.le_refl _) _) (by simp; omega) _⟩
  · have HX := hid (HN.out hf)
    clear hf HR HG HN
    go_wp2
    exact bodyPost_ret (v := .agg #[.int .i64 key, .bool false, .int .i64 0]) (by simp [results, Try.results130, go_sem, x0, x1, x2, hz]) rfl ⟨by rw [HX.out]; rfl, Below.alloc (((bE.setCell (p := ⟨w.heap.size, 0, none⟩) (Nat.le_refl _) _).setCell (p := ⟨w.heap.size, 1, none⟩) (Nat.le_refl _) _).setCell (p := ⟨w.heap.size, 2, none⟩) (Nat.le_refl _) _) (by simp; omega) _⟩

theorem good_leaves {ls : List (List Ch.Row)} {n : Nat} {key : Int} (hl : n = ls.length) (hc : (Ch.asked ls key != 0) = false) : ∀ k, k < n → (ls.getD k []).length ≠ 0 := by
  intro k hk
  exact (Ch.good_leaf (Ch.asked_good (ls := ls) (key := key) (by simpa using hc)).1 k (by omega)).1

set_option linter.unusedSimpArgs false in
set_option maxHeartbeats 2000000 in
theorem specBeforeOf_any (a : Option Addr) (n cap : Nat) (key : Int) (ls : List (List Ch.Row)) (w : World) (h : LvAt w a n ls) (hs : Ch.lvSize ls ≤ 1048576) :
    Calls Try.prog 76 #[.slice a n cap, .int .i64 key] w fun e w' => e = .returned (.agg #[.int .i64 (Ch.bfOf ls key).k, .bool (Ch.bfOf ls key).h, .int .i64 (Ch.bfOf ls key).v]) ∧ Below w.heap.size w w' := by
  have b0 : Below w.heap.size w (w.alloc (.cells #[.int .i64 0, .bool false, .int .i64 0] 64)) := (Below.refl _ _).alloc (Nat.le_refl _) _
  have AI := fun W hW => specAsked_any a n cap key ls W hW hs
  cases hc : (Ch.asked ls key != 0)
  · rw [Ch.bfOf_ok hc]
    have LI := fun W hW => l8Before_any a n cap key ls W hW hs (good_leaves h.len.out hc)
    generalize Ch.bf key (Ch.has ls key) = r at *
    generalize Ch.asked ls key = c at *
    obtain ⟨rk, rh, rv⟩ := r
    go_enter Try.func76, Try.ntmps76
    go_wp2_with fail
    refine (AI _ (h.below b0)).mono ?_
    rintro e w1 ⟨rfl, b1⟩
    obtain ⟨x0, x1, x2, f0, f1, f2⟩ := three_box b1
    have hz := lt_of_cell x0
    have bE := b0.trans (b1.mono b0.size)
    clear b1 AI
    go_wp2_with fail
    refine (LI _ (h.below bE)).mono ?_
    rintro e w2 ⟨rfl, b2⟩
    replace x0 := keep_cell b2 x0
    replace x1 := keep_cell b2 x1
    replace x2 := keep_cell b2 x2
    replace f0 := ((bcell b2).2 w.heap.size 0 hz).trans f0
    replace f1 := ((bcell b2).2 w.heap.size 1 hz).trans f1
    replace f2 := ((bcell b2).2 w.heap.size 2 hz).trans f2
    have hz2 := lt_of_cell x0
    have bE2 := bE.trans (b2.mono bE.size)
    clear b2 LI hc hz bE
    go_wp2
    exact bodyPost_ret (v := .agg #[.int .i64 rk, .bool rh, .int .i64 rv]) (by simp [results, Try.results76, go_sem, x0, x1, x2, hz2]) rfl ⟨rfl, ((bE2.setCell (p := ⟨w.heap.size, 0, none⟩) (Nat.le_refl _) _).setCell (p := ⟨w.heap.size, 1, none⟩) (Nat.le_refl _) _).setCell (p := ⟨w.heap.size, 2, none⟩) (Nat.le_refl _) _⟩
  · rw [Ch.bfOf_code hc]
    generalize Ch.asked ls key = c at *
    go_enter Try.func76, Try.ntmps76
    go_wp2_with fail
    refine (AI _ (h.below b0)).mono ?_
    rintro e w1 ⟨rfl, b1⟩
    obtain ⟨x0, x1, x2, f0, f1, f2⟩ := three_box b1
    have hz := lt_of_cell x0
    have bE := b0.trans (b1.mono b0.size)
    clear b1 AI
    go_wp2
    exact bodyPost_ret (v := .agg #[.int .i64 0, .bool false, .int .i64 0]) (by simp [results, Try.results76, go_sem, x0, x1, x2, hz]) rfl ⟨rfl, ((bE.setCell (p := ⟨w.heap.size, 0, none⟩) (Nat.le_refl _) _).setCell (p := ⟨w.heap.size, 1, none⟩) (Nat.le_refl _) _).setCell (p := ⟨w.heap.size, 2, none⟩) (Nat.le_refl _) _⟩

set_option linter.unusedSimpArgs false in
set_option maxHeartbeats 2000000 in
theorem specValueIn_any (a : Option Addr) (n cap : Nat) (key : Int) (ls : List (List Ch.Row)) (w : World) (h : LvAt w a n ls) (hs : Ch.lvSize ls ≤ 1048576) :
    Calls Try.prog 59 #[.slice a n cap, .int .i64 key] w fun e w' => e = .returned (.agg #[.int .i64 (Ch.valR ls key).1, .int .i64 (Ch.valR ls key).2]) ∧ Below w.heap.size w w' := by
  have b0 : Below w.heap.size w (w.alloc (.cells #[.int .i64 0, .int .i64 0] 43)) := (Below.refl _ _).alloc (Nat.le_refl _) _
  have AI := fun W hW => specAsked_any a n cap key ls W hW hs
  cases hc : (Ch.asked ls key != 0)
  · have LI := fun W hW => l8Before_any a n cap key ls W hW hs (good_leaves h.len.out hc)
    cases hh : Ch.has ls key with
    | none =>
      rw [Ch.valR_none hc hh]
      rw [hh, Ch.bf_none] at LI
      generalize Ch.asked ls key = c at *
      go_enter Try.func59, Try.ntmps59
      go_wp2_with fail
      refine (AI _ (h.below b0)).mono ?_
      rintro e w1 ⟨rfl, b1⟩
      obtain ⟨x0, x1, f0, f1⟩ := two_box b1
      have hz := lt_of_cell x0
      have bE := b0.trans (b1.mono b0.size)
      clear b1 AI
      go_wp2_with fail
      refine (LI _ (h.below bE)).mono ?_
      rintro e w2 ⟨rfl, b2⟩
      replace x0 := keep_cell b2 x0
      replace x1 := keep_cell b2 x1
      replace f0 := ((bcell b2).2 w.heap.size 0 hz).trans f0
      replace f1 := ((bcell b2).2 w.heap.size 1 hz).trans f1
      have hz2 := lt_of_cell x0
      have bE2 := bE.trans (b2.mono bE.size)
      clear b2 LI hc hz bE
      go_wp2
      exact bodyPost_ret (v := .agg #[.int .i64 4, .int .i64 0]) (by simp [results, Try.results59, go_sem, x0, x1, hz2]) rfl ⟨rfl, Below.alloc ((bE2.setCell (p := ⟨w.heap.size, 0, none⟩) (Nat.le_refl _) _).setCell (p := ⟨w.heap.size, 1, none⟩) (Nat.le_refl _) _) (by simp; omega) _⟩
    | some v =>
      rw [Ch.valR_some hc hh]
      rw [hh, Ch.bf_some] at LI
      generalize Ch.asked ls key = c at *
      go_enter Try.func59, Try.ntmps59
      go_wp2_with fail
      refine (AI _ (h.below b0)).mono ?_
      rintro e w1 ⟨rfl, b1⟩
      obtain ⟨x0, x1, f0, f1⟩ := two_box b1
      have hz := lt_of_cell x0
      have bE := b0.trans (b1.mono b0.size)
      clear b1 AI
      go_wp2_with fail
      refine (LI _ (h.below bE)).mono ?_
      rintro e w2 ⟨rfl, b2⟩
      replace x0 := keep_cell b2 x0
      replace x1 := keep_cell b2 x1
      replace f0 := ((bcell b2).2 w.heap.size 0 hz).trans f0
      replace f1 := ((bcell b2).2 w.heap.size 1 hz).trans f1
      have hz2 := lt_of_cell x0
      have bE2 := bE.trans (b2.mono bE.size)
      clear b2 LI hc hz bE
      go_wp2
      exact bodyPost_ret (v := .agg #[.int .i64 0, .int .i64 v]) (by simp [results, Try.results59, go_sem, x0, x1, hz2]) rfl ⟨rfl, Below.alloc ((bE2.setCell (p := ⟨w.heap.size, 0, none⟩) (Nat.le_refl _) _).setCell (p := ⟨w.heap.size, 1, none⟩) (Nat.le_refl _) _) (by simp; omega) _⟩
  · rw [Ch.valR_code hc]
    generalize Ch.asked ls key = c at *
    go_enter Try.func59, Try.ntmps59
    go_wp2_with fail
    refine (AI _ (h.below b0)).mono ?_
    rintro e w1 ⟨rfl, b1⟩
    obtain ⟨x0, x1, f0, f1⟩ := two_box b1
    have hz := lt_of_cell x0
    have bE := b0.trans (b1.mono b0.size)
    clear b1 AI
    go_wp2
    exact bodyPost_ret (v := .agg #[.int .i64 c, .int .i64 0]) (by simp [results, Try.results59, go_sem, x0, x1, hz]) rfl ⟨rfl, (bE.setCell (p := ⟨w.heap.size, 0, none⟩) (Nat.le_refl _) _).setCell (p := ⟨w.heap.size, 1, none⟩) (Nat.le_refl _) _⟩
end Go.Proofs.Ytjagobcogkdfhaa
