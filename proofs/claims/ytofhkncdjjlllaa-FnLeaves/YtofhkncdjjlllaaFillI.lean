
/- FillOf of the model and of the program. -/
import Derived.Test.YtofhkncdjjlllaaAllI
import Derived.Test.YtofhkncdjjlllaaMrgM
namespace Go.Proofs.Ytofhkncdjjlllaa
open Go.RowKit

theorem own_rows_len {w : World} {B m : Nat} {v : Value} {F : List Ch.Row} (h : w.ownsRow B 42 3 v m (rcells F)) : Hid (m = F.length) := by
  have h1 := h.1
  rw [rcells_len] at h1
  show _ = _
  omega
theorem quo_is (F n : Nat) (hF : F ≤ 1048576) : ∃ Q : Nat, Q ≤ 104857600 ∧ ((F : Int) * 100).tdiv (4 * (n : Int)) = (Q : Int) ∧ Hid ((F : Int) * 100 / (4 * (n : Int)) = (Q : Int)) := by
  have e : (F : Int) * 100 / (4 * (n : Int)) = ((F * 100 / (4 * n) : Nat) : Int) := by push_cast; rfl
  refine ⟨F * 100 / (4 * n), Nat.le_trans (Nat.div_le_self _ _) (by omega), ?_, e⟩
  rw [Int.tdiv_eq_ediv_of_nonneg (by omega), e]

/-- RowsOf of right leaves. -/
theorem implRowsOf_ok (a : Option Addr) (n cap : Nat) (ls : List (List Ch.Row)) (w : World) (h : LvAt w a n ls) (hs : Ch.lvSize ls ≤ 1048576) (h0 : Ch.leavesFault ls = 0) (m : Nat) (hm : Hid (ls.flatten.length = m)) :
    Calls Try.prog 77 #[.slice a n cap] w fun e w' => ∃ a' c', e = .returned (.agg #[.int .i64 0, .slice a' m c']) ∧ w'.ownsRow w.heap.size 42 3 (.slice a' m c') m (rcells ls.flatten) ∧ Below w.heap.size w w' := by
  have RI := implRowsOf_any a n cap ls w h hs
  rw [Ch.rowsR_ok h0] at RI
  refine RI.mono ?_
  rintro e w2 ⟨a', m', c', rfl, hm', own, b2⟩
  have HM := (own_rows_len own).out
  have hm := hm.out
  subst HM hm
  exact ⟨a', c', rfl, own, b2⟩
/-- The model's list of all rows, its length named. -/
theorem specRows_m (a : Option Addr) (n cap : Nat) (ls : List (List Ch.Row)) (w : World) (h : LvAt w a n ls) (hs : Ch.lvSize ls ≤ 1048576) (hg : ∀ k, k < n → (ls.getD k []).length ≠ 0) (m : Nat) (hm : Hid (ls.flatten.length = m)) :
    Calls Try.prog 92 #[.slice a n cap] w fun e w' => ∃ a' c', e = .returned (.slice a' m c') ∧ w'.ownsRow w.heap.size 42 3 (.slice a' m c') m (rcells ls.flatten) ∧ Below w.heap.size w w' := by
  have hm := hm.out
  subst hm
  exact specRows_any a n cap ls w h hs hg

set_option linter.unusedSimpArgs false in
theorem specFillOf_any (a : Option Addr) (n cap : Nat) (ls : List (List Ch.Row)) (w : World) (h : LvAt w a n ls) (hs : Ch.lvSize ls ≤ 1048576) :
    Calls Try.prog 43 #[.slice a n cap] w fun e w' => e = .returned (.agg #[.int .i64 (Ch.fillR ls).1, .int .i64 (Ch.fillR ls).2]) ∧ Below w.heap.size w w' := by
  have HL := h.len
  have hn : n ≤ 1048576 := by unfold Ch.lvSize at hs; have := HL.out; omega
  have b0 : Below w.heap.size w (w.alloc (.cells #[.int .i64 0, .int .i64 0] 56)) := (Below.refl _ _).alloc (Nat.le_refl _) _
  cases hc : (Ch.leavesFault ls != 0)
  · have h0 : Ch.leavesFault ls = 0 := by simpa using hc
    rw [Ch.fillR_ok h0]
    have hg := Ch.good_at HL h0
    have hfl := Ch.flat_small hs ls.length
    rw [List.take_length] at hfl
    rw [← HL.out]
    by_cases hn0 : n = 0
    · rw [if_pos hn0]
      subst hn0
      go_enter Try.func43, Try.ntmps43
      go_wp2_with fail
      refine (specLv_any a 0 cap ls _ (h.below b0) hs).mono ?_
      rintro e w1 ⟨rfl, b1⟩
      obtain ⟨x0, x1⟩ := box2 b1
      have f0 := box_froz b1 0
      have f1 := box_froz b1 1
      have hz := lt_of_cell x0
      have bE := b0.trans (b1.mono b0.size)
      generalize Ch.leavesFault ls = c at *
      go_wp2
      exact bodyPost_ret (v := .agg #[.int .i64 4, .int .i64 0]) (by simp [results, Try.results43, go_sem, x0, x1]) rfl ⟨rfl, (bE.setCell (p := ⟨w.heap.size, 0, none⟩) (Nat.le_refl _) _).setCell (p := ⟨w.heap.size, 1, none⟩) (Nat.le_refl _) _⟩
    · rw [if_neg hn0]
      have hne : ((n : Int) == 0) = false := by simpa using hn0
      obtain ⟨m, hm⟩ : ∃ m, Hid (ls.flatten.length = m) := ⟨_, rfl⟩
      rw [hm.out] at hfl ⊢
      obtain ⟨Q, hQ, hq, HQ⟩ := quo_is m n hfl
      go_enter Try.func43, Try.ntmps43
      go_wp2_with fail
      refine (specLv_any a n cap ls _ (h.below b0) hs).mono ?_
      rintro e w1 ⟨rfl, b1⟩
      obtain ⟨x0, x1⟩ := box2 b1
      have f0 := box_froz b1 0
      have f1 := box_froz b1 1
      have hz := lt_of_cell x0
      have bE := b0.trans (b1.mono b0.size)
      generalize Ch.leavesFault ls = c at *
      go_wp2_with fail
      refine (specRows_m a n cap ls _ (h.below bE) hs hg m hm).mono ?_
      rintro e w2 ⟨a', c', rfl, own, b2⟩
      replace x0 := keep_cell b2 x0
      replace x1 := keep_cell b2 x1
      replace f0 := ((bcell b2).2 w.heap.size 0 hz).trans f0
      replace f1 := ((bcell b2).2 w.heap.size 1 hz).trans f1
      have bE2 := bE.trans (b2.mono bE.size)
      clear own b2 hg
      have hd : ¬ (4 * (n : Int)) = 0 := by omega
      go_wp2
      refine bodyPost_ret (v := .agg #[.int .i64 0, .int .i64 Q]) (by simp [results, Try.results43, go_sem, x0, x1]) rfl ⟨by rw [HQ.out], ?_⟩
      exact (bE2.setCell (p := ⟨w.heap.size, 0, none⟩) (Nat.le_refl _) _).setCell (p := ⟨w.heap.size, 1, none⟩) (Nat.le_refl _) _
  · rw [Ch.fillR_no hc]
    go_enter Try.func43, Try.ntmps43
    go_wp2_with fail
    refine (specLv_any a n cap ls _ (h.below b0) hs).mono ?_
    rintro e w1 ⟨rfl, b1⟩
    obtain ⟨x0, x1⟩ := box2 b1
    have f0 := box_froz b1 0
    have f1 := box_froz b1 1
    have hz := lt_of_cell x0
    have bE := b0.trans (b1.mono b0.size)
    generalize hq : Ch.leavesFault ls = c at *
    go_wp2
    exact bodyPost_ret (v := .agg #[.int .i64 c, .int .i64 0]) (by simp [results, Try.results43, go_sem, x0, x1]) rfl ⟨by rw [hq], (bE.setCell (p := ⟨w.heap.size, 0, none⟩) (Nat.le_refl _) _).setCell (p := ⟨w.heap.size, 1, none⟩) (Nat.le_refl _) _⟩

set_option linter.unusedSimpArgs false in
theorem implFillOf_any (a : Option Addr) (n cap : Nat) (ls : List (List Ch.Row)) (w : World) (h : LvAt w a n ls) (hs : Ch.lvSize ls ≤ 1048576) :
    Calls Try.prog 35 #[.slice a n cap] w fun e w' => e = .returned (.agg #[.int .i64 (Ch.fillR ls).1, .int .i64 (Ch.fillR ls).2]) ∧ Below w.heap.size w w' := by
  have HL := h.len
  have hn : n ≤ 1048576 := by unfold Ch.lvSize at hs; have := HL.out; omega
  have b0 : Below w.heap.size w (w.alloc (.cells #[.int .i64 0, .int .i64 0] 56)) := (Below.refl _ _).alloc (Nat.le_refl _) _
  cases hc : (Ch.leavesFault ls != 0)
  · have h0 : Ch.leavesFault ls = 0 := by simpa using hc
    rw [Ch.fillR_ok h0]
    have hg := Ch.good_at HL h0
    have hfl := Ch.flat_small hs ls.length
    rw [List.take_length] at hfl
    rw [← HL.out]
    by_cases hn0 : n = 0
    · rw [if_pos hn0]
      subst hn0
      go_enter Try.func35, Try.ntmps35
      go_wp2_with fail
      refine (implLeaves_any a 0 cap ls _ (h.below b0) hs).mono ?_
      rintro e w1 ⟨rfl, b1⟩
      obtain ⟨x0, x1⟩ := box2 b1
      have f0 := box_froz b1 0
      have f1 := box_froz b1 1
      have hz := lt_of_cell x0
      have bE := b0.trans (b1.mono b0.size)
      generalize Ch.leavesFault ls = c at *
      go_wp2
      exact bodyPost_ret (v := .agg #[.int .i64 4, .int .i64 0]) (by simp [results, Try.results35, go_sem, x0, x1]) rfl ⟨rfl, (bE.setCell (p := ⟨w.heap.size, 0, none⟩) (Nat.le_refl _) _).setCell (p := ⟨w.heap.size, 1, none⟩) (Nat.le_refl _) _⟩
    · rw [if_neg hn0]
      have hne : ((n : Int) == 0) = false := by simpa using hn0
      obtain ⟨m, hm⟩ : ∃ m, Hid (ls.flatten.length = m) := ⟨_, rfl⟩
      rw [hm.out] at hfl ⊢
      obtain ⟨Q, hQ, hq, HQ⟩ := quo_is m n hfl
      go_enter Try.func35, Try.ntmps35
      go_wp2_with fail
      refine (implLeaves_any a n cap ls _ (h.below b0) hs).mono ?_
      rintro e w1 ⟨rfl, b1⟩
      obtain ⟨x0, x1⟩ := box2 b1
      have f0 := box_froz b1 0
      have f1 := box_froz b1 1
      have hz := lt_of_cell x0
      have bE := b0.trans (b1.mono b0.size)
      generalize hcc : Ch.leavesFault ls = c at *
      go_wp2_with fail
      refine (implRowsOf_ok a n cap ls w1 (h.below bE) hs (hcc.trans h0) m hm).mono ?_
      rintro e w2 ⟨a', c', rfl, own, b2⟩
      replace x0 := keep_cell b2 x0
      replace x1 := keep_cell b2 x1
      replace f0 := ((bcell b2).2 w.heap.size 0 hz).trans f0
      replace f1 := ((bcell b2).2 w.heap.size 1 hz).trans f1
      have bE2 := bE.trans (b2.mono bE.size)
      clear own b2 hg hcc h0
      have hd : ¬ (4 * (n : Int)) = 0 := by omega
      have hfd : ∀ W, (Instr.field 50 (.agg #[.int .i64 0, .slice a' m c']) 1).run Try.prog W = .ok (.slice a' m c') W := fun _ => by kernel_rfl
      go_wp2
      refine bodyPost_ret (v := .agg #[.int .i64 0, .int .i64 Q]) (by simp [results, Try.results35, go_sem, x0, x1]) rfl ⟨by rw [HQ.out], ?_⟩
      exact (bE2.setCell (p := ⟨w.heap.size, 0, none⟩) (Nat.le_refl _) _).setCell (p := ⟨w.heap.size, 1, none⟩) (Nat.le_refl _) _
  · rw [Ch.fillR_no hc]
    go_enter Try.func35, Try.ntmps35
    go_wp2_with fail
    refine (implLeaves_any a n cap ls _ (h.below b0) hs).mono ?_
    rintro e w1 ⟨rfl, b1⟩
    obtain ⟨x0, x1⟩ := box2 b1
    have f0 := box_froz b1 0
    have f1 := box_froz b1 1
    have hz := lt_of_cell x0
    have bE := b0.trans (b1.mono b0.size)
    generalize hq : Ch.leavesFault ls = c at *
    go_wp2
    exact bodyPost_ret (v := .agg #[.int .i64 c, .int .i64 0]) (by simp [results, Try.results35, go_sem, x0, x1]) rfl ⟨by rw [hq], (bE.setCell (p := ⟨w.heap.size, 0, none⟩) (Nat.le_refl _) _).setCell (p := ⟨w.heap.size, 1, none⟩) (Nat.le_refl _) _⟩
end Go.Proofs.Ytofhkncdjjlllaa
