
/- FindRow of the model and of the program. -/
import Derived.Test.YtlpncikiaojmiaaMz0
import Derived.Test.YtlpncikiaojmiaaScanW
namespace Go.Proofs.Ytlpncikiaojmiaa
open Go.RowKit Go.Maps

/-- What FindRow answers. -/
def Ch.findRR (ls : List (List Ch.Row)) (key : Int) : Int × List Ch.Row :=
  if asked ls key != 0 then (asked ls key, []) else match findR ls key with
    | none => (4, [])
    | some r => (0, [r])
theorem Ch.findRR_code {ls : List (List Ch.Row)} {key : Int} (h : (asked ls key != 0) = true) : findRR ls key = (asked ls key, []) := by rw [findRR, if_pos h]
theorem Ch.findRR_none {ls : List (List Ch.Row)} {key : Int} (h : (asked ls key != 0) = false) (hf : findR ls key = none) : findRR ls key = (4, []) := by
  rw [findRR, if_neg (by rw [h]; exact Bool.false_ne_true), hf]
theorem Ch.findRR_some {ls : List (List Ch.Row)} {key : Int} {r : Ch.Row} (h : (asked ls key != 0) = false) (hf : findR ls key = some r) : findRR ls key = (0, [r]) := by
  rw [findRR, if_neg (by rw [h]; exact Bool.false_ne_true), hf]
theorem Ch.find_first (F : List Ch.Row) (key : Int) (k : Nat) (hk : k < F.length) (hne : ∀ j, j < k → (F.getD j Row.zero).k ≠ key) (he : (F.getD k Row.zero).k = key) : F.find? (fun r => r.k == key) = some (F.getD k Row.zero) := by
  induction F generalizing k with
  | nil => simp at hk
  | cons q F ih =>
    cases k with
    | zero => simp at he; simp [he]
    | succ k =>
      have h0 := hne 0 (by omega)
      simp at h0
      rw [List.find?_cons_of_neg (by simpa using h0)]
      have := ih k (by simpa using hk) (fun j hj => by have := hne (j + 1) (by omega); simpa using this) (by simpa using he)
      simpa using this
theorem Ch.find_none_of (F : List Ch.Row) (key : Int) (hne : ∀ j, j < F.length → (F.getD j Row.zero).k ≠ key) : F.find? (fun r => r.k == key) = none := by
  rw [List.find?_eq_none]
  intro r hr
  obtain ⟨j, hj, rfl⟩ := List.getElem_of_mem hr
  have := hne j hj
  rw [getD_get _ _ _ hj] at this
  simpa using this

/-- A row was found, or there is none. -/
def FindIs (ls : List (List Ch.Row)) (key : Int) (r : Ch.Row) (ok : Bool) : Prop := (ok = true ∧ Ch.findR ls key = some r) ∨ (ok = false ∧ Ch.findR ls key = none)

def FindPost (ls : List (List Ch.Row)) (key : Int) (w : World) (e : Ending) (w' : World) : Prop :=
  ∃ r ok, e = .returned (.tuple #[.agg #[.int .i64 r.k, .int .i64 r.v, .bool r.g], .bool ok]) ∧ FindIs ls key r ok ∧ Below w.heap.size w w'

/-- A row that was just made, as a list of one's own. -/
theorem new_own {W : World} {B H : Nat} (r : Ch.Row) (hH : H = W.heap.size) (hB : B ≤ W.heap.size) : (W.alloc (.cells #[.int .i64 r.k, .int .i64 r.v, .bool r.g] 64)).ownsRow B 64 3 (.slice (some ⟨H, 0, none⟩) 1 1) 1 (rcells [r]) := by
  subst hH
  exact World.ownsRow_lit W #[.int .i64 r.k, .int .i64 r.v, .bool r.g] 1 hB (by unfold maxLen; omega) rfl

theorem box3 {w w1 : World} {t : TypeId} {c0 c1 c2 : Value} (b : Below (w.alloc (.cells #[c0, c1, c2] t)).heap.size (w.alloc (.cells #[c0, c1, c2] t)) w1) :
    w1.cell? ⟨w.heap.size, 0, none⟩ = some c0 ∧ w1.cell? ⟨w.heap.size, 1, none⟩ = some c1 ∧ w1.cell? ⟨w.heap.size, 2, none⟩ = some c2 := ⟨box_cell b 0, box_cell b 1, box_cell b 2⟩

end Go.Proofs.Ytlpncikiaojmiaa
