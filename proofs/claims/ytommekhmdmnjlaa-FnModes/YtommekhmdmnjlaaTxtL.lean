/- ModeText of the program and of the model, and the law FnExactModeText. -/
import Derived.Test.YtommekhmdmnjlaaModW
namespace Go.Proofs.Ytommekhmdmnjlaa
open Go.RowKit

def textV (m : Int) : Value := .string ⟨Ch.text m⟩
def textR (a : Int) : Value := if Ch.isM a then .agg #[.int .i64 0, textV a] else .agg #[.int .i64 3, .string ⟨#[]⟩]

set_option maxHeartbeats 4000000 in
theorem implText_any (a : Int) (w : World) :
    Calls Try.prog 23 #[.int .i64 a] w fun e w' => e = .returned (textR a) ∧ Below w.heap.size w w' := by
  unfold textR
  cases ha : Ch.isM a
  · go_enter Try.func23, Try.ntmps23
    go_wp2_with (go_at_call 22; refine (isModeAt ha _).mono ?_; rintro e w' ⟨rfl, rfl⟩)
    exact bodyPost_ret (v := .agg #[.int .i64 3, .string ⟨#[]⟩]) (by simp [results, Try.results23, go_sem]) rfl ⟨rfl, (Below.refl _ _).alloc (Nat.le_refl _) _⟩
  · rcases Ch.mode_cases ha with rfl | rfl | rfl | rfl | rfl | rfl
    all_goals
      go_enter Try.func23, Try.ntmps23
      go_wp2_with (go_at_call 22; refine (isModeAt ha _).mono ?_; rintro e w' ⟨rfl, rfl⟩)
      refine bodyPost_ret (by simp [results, Try.results23, go_sem]; rfl) rfl ⟨rfl, ((Below.refl _ _).alloc (Nat.le_refl _) _).alloc (by simp) _⟩

set_option maxHeartbeats 4000000 in
theorem l5Text_any (a : Int) (w : World) (ha : Ch.isM a = true) :
    Calls Try.prog 51 #[.int .i64 a] w fun e w' => e = .returned (textV a) ∧ Below w.heap.size w w' := by
  rcases Ch.mode_cases ha with rfl | rfl | rfl | rfl | rfl | rfl
  all_goals
    clear ha
    go_enter Try.func51, Try.ntmps51
    go_wp2_with fail
    go_ret
    exact ⟨rfl, (Below.refl _ _).alloc (Nat.le_refl _) _⟩

set_option maxHeartbeats 1000000 in
theorem specText_any (a : Int) (w : World) :
    Calls Try.prog 29 #[.int .i64 a] w fun e w' => e = .returned (textR a) ∧ Below w.heap.size w w' := by
  unfold textR
  cases ha : Ch.isM a
  · go_enter Try.func29, Try.ntmps29
    go_wp2_with (go_at_call 47; refine (specModeAt ha _).mono ?_; rintro e w' ⟨rfl, rfl⟩)
    exact bodyPost_ret (v := .agg #[.int .i64 3, .string ⟨#[]⟩]) (by simp [results, Try.results29, go_sem]) rfl ⟨rfl, (Below.refl _ _).alloc (Nat.le_refl _) _⟩
  · have BI := fun w' => l5Text_any a w' ha
    obtain ⟨s, hs⟩ : ∃ s : ByteArray, Hid (textV a = .string s) := ⟨_, rfl⟩
    rw [hs.out] at BI ⊢
    go_enter Try.func29, Try.ntmps29
    go_wp2_with (first | (go_at_call 47; refine (specModeAt ha _).mono ?_; rintro e w' ⟨rfl, rfl⟩) | (go_at_call 51; refine (BI _).mono ?_; rintro e w1 ⟨rfl, b1⟩; obtain ⟨c1, f1⟩ := bcell b1))
    have x0 := box_cell b1 0
    have x1 := box_cell b1 1
    simp at x0 x1
    have bE := below_box b1
    exact bodyPost_ret (v := .agg #[.int .i64 0, .string s]) (by simp [results, Try.results29, go_sem, x0, x1]) rfl ⟨rfl, (bE.setCell (p := ⟨w.heap.size, 0, none⟩) (Nat.le_refl _) _).setCell (p := ⟨w.heap.size, 1, none⟩) (Nat.le_refl _) _⟩

set_option maxHeartbeats 1000000 in
theorem eqText_same (c : Int) (s : ByteArray) (w : World) :
    Calls Try.prog 30 #[.agg #[.int .i64 c, .string s], .agg #[.int .i64 c, .string s]] w fun e w' => e = .returned (.bool true) ∧ Below w.heap.size w w' := by
  have hcc : (c != c) = false := by simp
  go_enter Try.func30, Try.ntmps30
  go_wp2_with fail
  go_ret
  exact ⟨rfl, ((Below.refl _ _).alloc (Nat.le_refl _) _).alloc (by simp) _⟩

theorem textR_is (a : Int) : ∃ c s, textR a = .agg #[.int .i64 c, .string s] := by
  unfold textR textV
  cases Ch.isM a
  · exact ⟨_, _, rfl⟩
  · exact ⟨_, _, rfl⟩

set_option maxHeartbeats 1000000 in
theorem lawText_any (a : Int) (w : World) :
    Calls Try.prog 9 #[.int .i64 a] w fun e w' => e = .returned (.bool true) ∧ Below w.heap.size w w' := by
  have BI := fun w' => implText_any a w'
  have BS := fun w' => specText_any a w'
  obtain ⟨c, s, h⟩ := textR_is a
  rw [h] at BI BS
  clear h
  go_enter Try.func9, Try.ntmps9
  go_wp2_with fail
  refine (BS _).mono ?_
  rintro e w1 ⟨rfl, b1⟩
  go_wp2_with fail
  refine (BI _).mono ?_
  rintro e w2 ⟨rfl, b2⟩
  have x0 := box_cell b2 0
  have x1 := box_cell b2 1
  simp at x0 x1
  have z2 := lt_of_cell x0
  have bE := b1.trans ((below_box b2).mono b1.size)
  go_wp2_with fail
  refine (eqText_same _ _ _).mono ?_
  rintro e w3 ⟨rfl, b3⟩
  go_wp2_with fail
  go_ret
  exact ⟨rfl, (bE.alloc (by have := bE.size; omega) _).trans (b3.mono (by simp; have := bE.size; omega))⟩
end Go.Proofs.Ytommekhmdmnjlaa
