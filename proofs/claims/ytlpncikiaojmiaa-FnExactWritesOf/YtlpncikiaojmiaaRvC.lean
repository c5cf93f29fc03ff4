
/- CommittedOf of the program and of the model. -/
import Derived.Test.YtlpncikiaojmiaaRvA
import Derived.Test.YtlpncikiaojmiaaLkN
import Derived.Test.YtlpncikiaojmiaaAppX
import Derived.Test.YtlpncikiaojmiaaHm
import Derived.Lib.SmallJoins
namespace Go.Proofs.Ytlpncikiaojmiaa
open Go.RowKit

theorem ret_boolV {a b : Bool} (h : a = b) : Ending.returned (.bool a) = .returned (.bool b) := by rw [h]
theorem own_empty (w : World) (B : Nat) (e : TypeId) (size : Nat) (hB : B ≤ w.heap.size) : (w.alloc (.cells #[] e)).ownsRow B e size (.slice (some ⟨w.heap.size, 0, none⟩) 0 0) 0 [] :=
  World.ownsRow_lit w #[] 0 hB (by unfold maxLen; omega) (by simp)
theorem own_apartV {w : World} {base : Nat} {e : TypeId} {size : Nat} {v : Value} {n : Nat} {xs : List Value} (h : w.ownsRow base e size v n xs) {b : Nat} (hb : b < base) : v.ownBlock ≠ some b := by
  intro he
  have := (owns_lt h b he).1
  omega
theorem block_belowV {w w' : World} (hb : Below w.heap.size w w') {b : Nat} {o : Obj} (h : w.heap[b]? = some o) : w'.heap[b]? = some o :=
  (hb.block b (Array.getElem?_eq_some_iff.1 h).1).trans h
theorem block_grownV {w w' : World} {row : Option Nat} {b : Nat} {o : Obj} (hg : w.grownBy w' row) (h : w.heap[b]? = some o) (hne : row ≠ some b) : w'.heap[b]? = some o :=
  (hg.block b (Array.getElem?_eq_some_iff.1 h).1 (fun e => hne e.symm)).trans h
theorem Ch.has_snocV {zs : List Int} {v : Int} {k : Nat} (hk : k < zs.length) : (zs.take (k + 1)).contains v = ((zs.take k).contains v || (zs.getD k 0 == v)) := by
  rw [List.take_add_one, List.getElem?_eq_getElem hk, Bool.eq_iff_iff]
  simp only [Option.toList_some, List.getD, List.getElem?_eq_getElem hk, Option.getD_some, List.contains_iff_mem, List.mem_append, List.mem_singleton, Bool.or_eq_true, beq_iff_eq]
  exact or_congr_right ⟨fun h => h.symm, fun h => h.symm⟩
theorem Ch.has_yesV {zs : List Int} {v : Int} {k : Nat} (hk : k < zs.length) (h : zs.getD k 0 = v) : zs.contains v = true := by
  rw [List.contains_iff_mem, ← h]
  simp [List.getD, hk]

/-- What the place of a value tells. -/
def IdxIs (c : Bool) (q : Int) : Prop := if c = true then 0 ≤ q else q < 0
theorem idx_none : IdxIs false (-1) := by unfold IdxIs; decide
end Go.Proofs.Ytlpncikiaojmiaa
