
/- Locks that are opened and closed by the program. -/
import Derived.Test.YtjagobcogkdfhaaLkC
import Derived.Test.YtjagobcogkdfhaaLkX
namespace Go.Proofs.Ytjagobcogkdfhaa
open Go.RowKit

theorem Try.info181 : (Try.prog.info? 181).map (fun i => (i.zero, i.size, i.bytes)) = some (some (.agg #[.int .i64 0, .slice none 0 0, .slice none 0 0]), 3, 56) := by kernel_rfl

theorem new_lock (w : World) (r : Int) (ah : Option Addr) (nh ch : Nat) (aq : Option Addr) (nq cq : Nat) (t : TypeId) : CellsAt (w.alloc (.cells #[.int .i64 r, .slice ah nh ch, .slice aq nq cq] t)) (some ⟨w.heap.size, 0, none⟩) (1 * 3) [.int .i64 r, .slice ah nh ch, .slice aq nq cq] := by
  refine ⟨rfl, fun _ => ⟨_, _, rfl, fun i hi => ?_⟩⟩
  rw [Nat.zero_add]
  have := cell_of_row (w.alloc (.cells #[.int .i64 r, .slice ah nh ch, .slice aq nq cq] t)) _ i _ _ _ (heap_alloc_new w _)
  rw [this]
  simp
theorem lock_one' (r : Int) (ah : Option Addr) (nh ch : Nat) (aq : Option Addr) (nq cq : Nat) : ∀ u ∈ [Value.int .i64 r, .slice ah nh ch, .slice aq nq cq], u.oneCell' = true := by
  intro u hu
  simp at hu
  rcases hu with rfl | rfl | rfl <;> rfl

/-- Locks that somebody holds or waits for. -/
def Ch.usedL (l : Ch.Lock) : Bool := !(l.hs.length + l.qs.length == 0)
theorem sub_flat {vs vs' : List (Value × Value)} (h : vs'.Sublist vs) : (vs'.flatMap blks).Sublist (vs.flatMap blks) := by
  induction h with
  | slnil => exact List.Sublist.refl _
  | cons a _ ih => rw [List.flatMap_cons]; exact ih.trans (List.sublist_append_right _ _)
  | cons_cons a _ ih => rw [List.flatMap_cons, List.flatMap_cons]; exact (List.Sublist.refl _).append ih
theorem Ch.used_yes {ls : List Ch.Lock} {k : Nat} (hk : k < ls.length) (h : Ch.usedL (Ch.lkAt ls k) = true) : (ls.take (k + 1)).filter Ch.usedL = (ls.take k).filter Ch.usedL ++ [Ch.lkAt ls k] := by
  unfold Ch.lkAt at *
  rw [Ch.take_snoc ls Ch.Lock.zero k hk, List.filter_append]
  generalize ls.getD k Ch.Lock.zero = l at *
  simp [h]
theorem Ch.used_no {ls : List Ch.Lock} {k : Nat} (hk : k < ls.length) (h : Ch.usedL (Ch.lkAt ls k) = false) : (ls.take (k + 1)).filter Ch.usedL = (ls.take k).filter Ch.usedL := by
  unfold Ch.lkAt at *
  rw [Ch.take_snoc ls Ch.Lock.zero k hk, List.filter_append]
  generalize ls.getD k Ch.Lock.zero = l at *
  simp [h]
theorem take_next {vs : List (Value × Value)} {k : Nat} {p : Value × Value} (hp : vs[k]? = some p) : vs.take (k + 1) = vs.take k ++ [p] := by
  have hk : k < vs.length := (List.getElem?_eq_some_iff.1 hp).1
  rw [List.take_succ_eq_append_getElem hk]
  have : vs[k] = p := by simpa [List.getElem?_eq_getElem hk] using hp
  rw [this]

end Go.Proofs.Ytjagobcogkdfhaa
