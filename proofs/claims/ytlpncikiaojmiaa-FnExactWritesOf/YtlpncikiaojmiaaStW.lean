/- Writes and ends: of the program and of the model; what must not come behind an act. -/
import Derived.Test.YtlpncikiaojmiaaStM
import Derived.Test.YtlpncikiaojmiaaTchW
import Derived.Test.YtlpncikiaojmiaaAcB
namespace Go.Proofs.Ytlpncikiaojmiaa
open Go.RowKit

theorem isWrite_any (k : Int) (w : World) : Calls Try.prog 61 #[.int .i64 k] w fun e w' => e = .returned (.bool (Ch.isW k)) ∧ w' = w := by
  unfold Ch.isW
  by_cases h2 : (k == 2) = true
  · go_enter Try.func61, Try.ntmps61
    go_wp2
    go_ret
    exact ⟨by simp [h2], rfl⟩
  · have h2' : (k == 2) = false := by simpa using h2
    clear h2
    go_enter Try.func61, Try.ntmps61
    go_wp2
    go_ret
    exact ⟨by simp [h2'], rfl⟩
theorem isEnd_any (k : Int) (w : World) : Calls Try.prog 52 #[.int .i64 k] w fun e w' => e = .returned (.bool (Ch.isE k)) ∧ w' = w := by
  unfold Ch.isE
  by_cases h2 : (k == 6) = true
  · go_enter Try.func52, Try.ntmps52
    go_wp2
    go_ret
    exact ⟨by simp [h2], rfl⟩
  · have h2' : (k == 6) = false := by simpa using h2
    clear h2
    go_enter Try.func52, Try.ntmps52
    go_wp2
    go_ret
    exact ⟨by simp [h2'], rfl⟩
theorem l14Writes_any (k a b v : Int) (w : World) : Calls Try.prog 59 #[.agg #[.int .i64 k, .int .i64 a, .int .i64 b, .int .i64 v]] w fun e w' => e = .returned (.bool (Ch.isW k)) ∧ Below w.heap.size w w' := by
  unfold Ch.isW
  by_cases h2 : (k == 2) = true
  · go_enter Try.func59, Try.ntmps59
    go_wp2
    go_ret
    exact ⟨by simp [h2], (Below.refl _ _).alloc (Nat.le_refl _) _⟩
  · have h2' : (k == 2) = false := by simpa using h2
    clear h2
    go_enter Try.func59, Try.ntmps59
    go_wp2
    go_ret
    exact ⟨by simp [h2'], (Below.refl _ _).alloc (Nat.le_refl _) _⟩
theorem l14Ends_any (k a b v : Int) (w : World) : Calls Try.prog 74 #[.agg #[.int .i64 k, .int .i64 a, .int .i64 b, .int .i64 v]] w fun e w' => e = .returned (.bool (Ch.isE k)) ∧ Below w.heap.size w w' := by
  unfold Ch.isE
  by_cases h2 : (k == 6) = true
  · go_enter Try.func74, Try.ntmps74
    go_wp2
    go_ret
    exact ⟨by simp [h2], (Below.refl _ _).alloc (Nat.le_refl _) _⟩
  · have h2' : (k == 6) = false := by simpa using h2
    clear h2
    go_enter Try.func74, Try.ntmps74
    go_wp2
    go_ret
    exact ⟨by simp [h2'], (Below.refl _ _).alloc (Nat.le_refl _) _⟩
end Go.Proofs.Ytlpncikiaojmiaa
