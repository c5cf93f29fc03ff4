/- Names and fields of operations, of the model. -/
import Derived.Test.YtalhmogaogaekaaDoorOtB
namespace Go.Proofs.YtalhmogaogaekaaDoor
open Go.RowKit

def Ch.opName (k : Int) : ByteArray :=
  if k = 1 then ⟨#[103, 101, 116]⟩ else if k = 2 then ⟨#[112, 117, 116]⟩ else if k = 3 then ⟨#[100, 101, 108, 101, 116, 101]⟩ else if k = 4 then ⟨#[115, 99, 97, 110]⟩
  else if k = 5 then ⟨#[102, 105, 110, 100]⟩ else if k = 6 then ⟨#[99, 111, 109, 109, 105, 116]⟩ else if k = 7 then ⟨#[97, 98, 111, 114, 116]⟩ else if k = 8 then ⟨#[99, 108, 101, 97, 110]⟩
  else if k = 9 then ⟨#[112, 97, 99, 107]⟩ else ⟨#[98, 117, 105, 108, 100]⟩
def Ch.opFields (k : Int) (x y z : Nat) : List Nat := if k = 1 ∨ k = 3 ∨ k = 8 then [x] else if k = 2 then [x, z] else if k = 4 then [x, y] else if k = 5 then [z] else []
def Ch.opText (k : Int) (x y z : Nat) : ByteArray := Ch.line (Ch.opName k) (Ch.opFields k x y z)

theorem Ch.op_ok {k a b v : Int} (h : Ch.opFault k a b v = 0) : ∃ x y z : Nat, a = x ∧ b = y ∧ v = z ∧ x ≤ 99 ∧ y ≤ 99 ∧ z ≤ 9999 ∧ (k = 1 ∨ k = 2 ∨ k = 3 ∨ k = 4 ∨ k = 5 ∨ k = 6 ∨ k = 7 ∨ k = 8 ∨ k = 9 ∨ k = 10) := by
  have key : 0 ≤ a ∧ a ≤ 99 ∧ 0 ≤ b ∧ b ≤ 99 ∧ 0 ≤ v ∧ v ≤ 9999 ∧ (k = 1 ∨ k = 2 ∨ k = 3 ∨ k = 4 ∨ k = 5 ∨ k = 6 ∨ k = 7 ∨ k = 8 ∨ k = 9 ∨ k = 10) := by
    unfold Ch.opFault at h
    have IA : ∀ t lo hi : Int, (Ch.inB t lo hi = false) = ¬ (lo ≤ t ∧ t ≤ hi) := by
      intro t lo hi
      unfold Ch.inB
      simp only [eq_iff_iff, Bool.and_eq_false_iff, decide_eq_false_iff_not]
      omega
    simp only [IA] at h
    repeat' split at h
    all_goals omega
  exact ⟨a.toNat, b.toNat, v.toNat, by omega, by omega, by omega, by omega, by omega, by omega, key.2.2.2.2.2.2⟩

set_option maxHeartbeats 1000000 in
theorem names_any (w : World) :
    Calls Tryd.prog 16 #[] w fun e w' => e = .returned (.slice (some ⟨w.heap.size, 0, none⟩) 11 11) ∧
      CellsAt w' (some ⟨w.heap.size, 0, none⟩) (11 * 1) (scells [⟨#[]⟩, Ch.opName 1, Ch.opName 2, Ch.opName 3, Ch.opName 4, Ch.opName 5, Ch.opName 6, Ch.opName 7, Ch.opName 8, Ch.opName 9, Ch.opName 10]) ∧ Below w.heap.size w w' := by
  go_enter Tryd.func16, Tryd.ntmps16
  go_wp2
  go_ret
  refine ⟨rfl, ⟨rfl, fun _ => ⟨w.heap.size, 0, rfl, fun i hi => ?_⟩⟩, (Below.refl _ _).alloc (Nat.le_refl _) _⟩
  rw [Nat.zero_add]
  have h2 := heap_alloc_new w (.cells #[.string ⟨#[]⟩, .string (Ch.opName 1), .string (Ch.opName 2), .string (Ch.opName 3), .string (Ch.opName 4), .string (Ch.opName 5), .string (Ch.opName 6), .string (Ch.opName 7), .string (Ch.opName 8), .string (Ch.opName 9), .string (Ch.opName 10)] 9)
  show (w.alloc (.cells #[.string ⟨#[]⟩, .string (Ch.opName 1), .string (Ch.opName 2), .string (Ch.opName 3), .string (Ch.opName 4), .string (Ch.opName 5), .string (Ch.opName 6), .string (Ch.opName 7), .string (Ch.opName 8), .string (Ch.opName 9), .string (Ch.opName 10)] 9)).cell? ⟨w.heap.size, i, none⟩ = _
  unfold World.cell?
  rw [h2]
  have : i = 0 ∨ i = 1 ∨ i = 2 ∨ i = 3 ∨ i = 4 ∨ i = 5 ∨ i = 6 ∨ i = 7 ∨ i = 8 ∨ i = 9 ∨ i = 10 := by omega
  rcases this with rfl | rfl | rfl | rfl | rfl | rfl | rfl | rfl | rfl | rfl | rfl <;> rfl

set_option maxHeartbeats 2000000 in
theorem fields_any (k : Int) (x y z : Nat) (w : World) (hk : k = 1 ∨ k = 2 ∨ k = 3 ∨ k = 4 ∨ k = 5 ∨ k = 6 ∨ k = 7 ∨ k = 8 ∨ k = 9 ∨ k = 10) :
    Calls Tryd.prog 17 #[.agg #[.int .i64 k, .int .i64 x, .int .i64 y, .int .i64 z]] w fun e w' => ∃ a' n c', e = .returned (.slice a' n c') ∧ n ≤ 2 ∧
      CellsAt w' a' (n * 1) (ncells (Ch.opFields k x y z)) ∧ Below w.heap.size w w' := by
  have kA : ∀ o, Below w.heap.size w (w.alloc o) := fun o => (Below.refl _ _).alloc (Nat.le_refl _) o
  rcases hk with rfl | rfl | rfl | rfl | rfl | rfl | rfl | rfl | rfl | rfl
  all_goals
    go_enter Tryd.func17, Tryd.ntmps17
    go_wp2
    go_ret
  all_goals first
    | exact ⟨none, 0, 0, rfl, by omega, ⟨rfl, fun h => absurd h (by omega)⟩, kA _⟩
    | (refine ⟨_, 1, 1, rfl, by omega, ⟨rfl, fun _ => ⟨_, 0, rfl, fun i hi => ?_⟩⟩, (kA _).alloc (by simp) _⟩
       obtain rfl : i = 0 := by omega
       simp [go_sem]; rfl)
    | (refine ⟨_, 2, 2, rfl, by omega, ⟨rfl, fun _ => ⟨_, 0, rfl, fun i hi => ?_⟩⟩, (kA _).alloc (by simp) _⟩
       have : i = 0 ∨ i = 1 := by omega
       rcases this with rfl | rfl <;> (simp [go_sem]; rfl))
end Go.Proofs.YtalhmogaogaekaaDoor
