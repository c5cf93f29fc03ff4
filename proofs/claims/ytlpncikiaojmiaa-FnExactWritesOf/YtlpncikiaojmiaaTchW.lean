/- TouchesOf of the program and of the model. -/
import Derived.Test.YtlpncikiaojmiaaTchM
import Derived.Test.YtlpncikiaojmiaaOpF
import Derived.Test.YtlpncikiaojmiaaOpW
namespace Go.Proofs.Ytlpncikiaojmiaa
open Go.RowKit

set_option linter.unusedSimpArgs false in
set_option maxHeartbeats 1000000 in
theorem l14Touches_any (k a b v key : Int) (w : World) :
    Calls Try.prog 55 #[.agg #[.int .i64 k, .int .i64 a, .int .i64 b, .int .i64 v], .int .i64 key] w fun e w' => e = .returned (.bool (Ch.touch k a b key)) ∧ Below w.heap.size w w' := by
  rcases Ch.op_cases k with h1 | h1 | h1 | h1 | h1 | h1 | h1 | h1 | h1 | h1 | h1
  rotate_left 10
  · have z1 : (k == 1) = false := by unfold Ch.inB at h1; simp only [Bool.and_eq_false_iff, decide_eq_false_iff_not] at h1; simp; omega
    have z2 : (k == 2) = false := by unfold Ch.inB at h1; simp only [Bool.and_eq_false_iff, decide_eq_false_iff_not] at h1; simp; omega
    have z3 : (k == 3) = false := by unfold Ch.inB at h1; simp only [Bool.and_eq_false_iff, decide_eq_false_iff_not] at h1; simp; omega
    have z4 : (k == 4) = false := by unfold Ch.inB at h1; simp only [Bool.and_eq_false_iff, decide_eq_false_iff_not] at h1; simp; omega
    have z5 : (k == 5) = false := by unfold Ch.inB at h1; simp only [Bool.and_eq_false_iff, decide_eq_false_iff_not] at h1; simp; omega
    have HE : Hid (Ch.touch k a b key = false) := by
      show _ = _
      simp only [beq_eq_false_iff_ne, ne_eq] at z1 z2 z3 z4 z5
      unfold Ch.touch
      simp [z1, z2, z3, z4, z5]
    rw [HE.out]
    clear h1
    go_enter Try.func55, Try.ntmps55
    go_wp2
    go_ret
    exact ⟨rfl, (Below.refl _ _).alloc (Nat.le_refl _) _⟩
  all_goals
    subst h1
    simp only [Ch.touch]
    go_enter Try.func55, Try.ntmps55
    go_wp2_with (go_at_call 78; refine (in_any _ _ _ _).mono ?_; rintro e w' ⟨rfl, rfl⟩)
    go_ret
    exact ⟨by simp, (Below.refl _ _).alloc (Nat.le_refl _) _⟩

set_option linter.unusedSimpArgs false in
set_option maxHeartbeats 1000000 in
theorem specTouches_any (k a b v key : Int) (w : World) :
    Calls Try.prog 25 #[.agg #[.int .i64 k, .int .i64 a, .int .i64 b, .int .i64 v], .int .i64 key] w fun e w' => e = .returned (.bool (Ch.touches k a b v key)) ∧ Below w.heap.size w w' := by
  have hs := fun W => specOp_any k a b v W
  have ht := fun W => l14Touches_any k a b v key W
  by_cases hF : Ch.opFault k a b v = 0
  · rw [hF] at hs
    by_cases hK : Ch.inB key 0 99 = true
    · rw [Ch.touches_ok hF hK]
      clear hF
      generalize Ch.touch k a b key = T at *
      go_enter Try.func25, Try.ntmps25
      go_wp2_with fail
      refine (hs _).mono ?_
      rintro e w1 ⟨rfl, b1⟩
      obtain ⟨c2, f2⟩ := bcell b1
      have x0 := c2 w.heap.size 0 (by simp)
      have x1 := c2 w.heap.size 1 (by simp)
      have x2 := c2 w.heap.size 2 (by simp)
      have x3 := c2 w.heap.size 3 (by simp)
      clear c2 f2
      simp [go_sem] at x0 x1 x2 x3
      go_wp2_with (go_at_call 54; refine (key_any _ _).mono ?_; rintro e w' ⟨rfl, rfl⟩)
      refine (ht _).mono ?_
      rintro e w2 ⟨rfl, b2⟩
      have b2' := b1.trans (b2.mono b1.size)
      go_wp2
      go_ret
      exact ⟨rfl, below_box b2'⟩
    · have hK' : Ch.inB key 0 99 = false := by simpa using hK
      rw [Ch.touches_key hK']
      clear hF hK
      go_enter Try.func25, Try.ntmps25
      go_wp2_with fail
      refine (hs _).mono ?_
      rintro e w1 ⟨rfl, b1⟩
      go_wp2_with (go_at_call 54; refine (key_any _ _).mono ?_; rintro e w' ⟨rfl, rfl⟩)
      go_ret
      exact ⟨rfl, below_box b1⟩
  · rw [Ch.touches_bad hF]
    have hF' : (Ch.opFault k a b v == 0) = false := by simpa using hF
    clear hF
    generalize Ch.opFault k a b v = F at *
    go_enter Try.func25, Try.ntmps25
    go_wp2_with fail
    refine (hs _).mono ?_
    rintro e w1 ⟨rfl, b1⟩
    go_wp2
    go_ret
    exact ⟨rfl, below_box b1⟩

set_option linter.unusedSimpArgs false in
set_option maxHeartbeats 4000000 in
theorem implTouches_any (k a b v key : Int) (w : World) :
    Calls Try.prog 27 #[.agg #[.int .i64 k, .int .i64 a, .int .i64 b, .int .i64 v], .int .i64 key] w fun e w' => e = .returned (.bool (Ch.touches k a b v key)) ∧ Below w.heap.size w w' := by
  have hs := fun W => implOp_any k a b v W
  by_cases hF : Ch.opFault k a b v = 0
  · rw [hF] at hs
    by_cases hK : Ch.inB key 0 99 = true
    · rw [Ch.touches_ok hF hK]
      rcases Ch.op_kinds hF with h1 | h1 | h1 | h1 | h1 | h1 | h1 | h1 | h1 | h1
      all_goals
        subst h1
        simp only [Ch.touch]
        clear hF
        by_cases hL : a ≤ key
        all_goals
          go_enter Try.func27, Try.ntmps27
          go_wp2_with fail
          refine (hs _).mono ?_
          rintro e w1 ⟨rfl, b1⟩
          obtain ⟨c2, f2⟩ := bcell b1
          have x0 := c2 w.heap.size 0 (by simp)
          have x1 := c2 w.heap.size 1 (by simp)
          have x2 := c2 w.heap.size 2 (by simp)
          have x3 := c2 w.heap.size 3 (by simp)
          clear c2 f2
          simp [go_sem] at x0 x1 x2 x3
          go_wp2_with (go_at_call 57; refine (isKey_any _ _).mono ?_; rintro e w' ⟨rfl, rfl⟩)
          go_ret
          exact ⟨by first | (simp [Ch.inB, hL]; done) | (simp [Ch.inB, hL]; omega), below_box b1⟩
    · have hK' : Ch.inB key 0 99 = false := by simpa using hK
      rw [Ch.touches_key hK']
      clear hF hK
      go_enter Try.func27, Try.ntmps27
      go_wp2_with fail
      refine (hs _).mono ?_
      rintro e w1 ⟨rfl, b1⟩
      go_wp2_with (go_at_call 57; refine (isKey_any _ _).mono ?_; rintro e w' ⟨rfl, rfl⟩)
      go_ret
      exact ⟨rfl, below_box b1⟩
  · rw [Ch.touches_bad hF]
    have hF' : (Ch.opFault k a b v != 0) = true := by simpa using hF
    clear hF
    generalize Ch.opFault k a b v = F at *
    go_enter Try.func27, Try.ntmps27
    go_wp2_with fail
    refine (hs _).mono ?_
    rintro e w1 ⟨rfl, b1⟩
    go_wp2
    go_ret
    exact ⟨rfl, below_box b1⟩
end Go.Proofs.Ytlpncikiaojmiaa
