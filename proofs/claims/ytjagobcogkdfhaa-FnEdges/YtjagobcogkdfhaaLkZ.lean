
/- ResOf of the model and of the program. -/
import Derived.Test.YtjagobcogkdfhaaLkX
import Derived.Test.YtjagobcogkdfhaaLkTZ
import Derived.Test.YtjagobcogkdfhaaDrawA
import Derived.Lib.SmallJoins
namespace Go.Proofs.Ytjagobcogkdfhaa
open Go.RowKit

/-- The resources that a transaction holds. -/
def Ch.resL (ls : List Ch.Lock) (t : Int) : List Int := (ls.filter fun l => Ch.hasH l.hs t).map (·.r)
def Ch.resR (ls : List Ch.Lock) (t : Int) : Int × List Int := if Ch.askedT ls t != 0 then (Ch.askedT ls t, []) else (0, Ch.resL ls t)
theorem Ch.resR_bad {ls : List Ch.Lock} {t c : Int} (h : Ch.askedT ls t = c) (h0 : c ≠ 0) : Ch.resR ls t = (c, []) := by
  unfold Ch.resR; rw [h, if_pos (by simpa using h0)]
theorem Ch.resR_ok {ls : List Ch.Lock} {t : Int} (h : Ch.askedT ls t = 0) : Ch.resR ls t = (0, Ch.resL ls t) := by
  unfold Ch.resR; rw [h]; rfl
theorem Ch.resL_yes {ls : List Ch.Lock} {t : Int} {k : Nat} (hk : k < ls.length) (h : Ch.hasH (Ch.lkAt ls k).hs t = true) : Ch.resL (ls.take (k + 1)) t = Ch.resL (ls.take k) t ++ [(Ch.lkAt ls k).r] := by
  unfold Ch.resL Ch.lkAt at *
  rw [Ch.take_snoc ls Ch.Lock.zero k hk, List.filter_append, List.map_append]
  generalize ls.getD k Ch.Lock.zero = l at *
  simp [h]
theorem Ch.resL_no {ls : List Ch.Lock} {t : Int} {k : Nat} (hk : k < ls.length) (h : Ch.hasH (Ch.lkAt ls k).hs t = false) : Ch.resL (ls.take (k + 1)) t = Ch.resL (ls.take k) t := by
  unfold Ch.resL Ch.lkAt at *
  rw [Ch.take_snoc ls Ch.Lock.zero k hk, List.filter_append, List.map_append]
  generalize ls.getD k Ch.Lock.zero = l at *
  simp [h]
theorem row2 {W : World} {g : Nat} {t : TypeId} {u0 u1 : Value} (h : W.heap[g]? = some (.cells #[u0, u1] t (0, 0))) :
    W.cell? ⟨g, 0, none⟩ = some u0 ∧ W.cell? ⟨g, 1, none⟩ = some u1 ∧ W.frozen? ⟨g, 0, none⟩ = false ∧ W.frozen? ⟨g, 1, none⟩ = false :=
  ⟨cell_of_row _ _ _ _ _ _ h, cell_of_row _ _ _ _ _ _ h, frz_of h, frz_of h⟩
theorem own_ne {w : World} {base : Nat} {e : TypeId} {size : Nat} {v : Value} {n : Nat} {xs : List Value} (h : w.ownsRow base e size v n xs) {b : Nat} (hb : b < base) : v.ownBlock ≠ some b := fun e => by
  have := (owns_lt h b e).1
  omega
theorem new_int (w : World) (r : Int) (t : TypeId) : CellsAt (w.alloc (.cells #[.int .i64 r] t)) (some ⟨w.heap.size, 0, none⟩) (1 * 1) (icells [r]) := by
  refine ⟨rfl, fun _ => ⟨_, _, rfl, fun i hi => ?_⟩⟩
  rw [Nat.zero_add]
  have := cell_of_row (w.alloc (.cells #[.int .i64 r] t)) _ i _ _ _ (heap_alloc_new w _)
  rw [this]
  simp [icells]
theorem heap_below {w w' : World} (hb : Below w.heap.size w w') {b : Nat} {o : Obj} (h : w.heap[b]? = some o) : w'.heap[b]? = some o :=
  (hb.block b (Array.getElem?_eq_some_iff.1 h).1).trans h

end Go.Proofs.Ytjagobcogkdfhaa
