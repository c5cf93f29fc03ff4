
/- FreeLocks of the program. -/
import Derived.Test.YtjagobcogkdfhaaLkH
namespace Go.Proofs.Ytjagobcogkdfhaa
open Go.RowKit

theorem Ch.freeInts_len {ls : List Ch.Lock} {t : Int} (h : ∀ i, i < ls.length → (Ch.lkAt ls i).qs.length ≤ 20) (k : Nat) (hk : k ≤ ls.length) : (Ch.freeInts (ls.take k) t).length ≤ 20 * k := by
  induction k with
  | zero => simp [Ch.freeInts]
  | succ k ih =>
    rw [Ch.freeInts_next ls t k (by omega), List.length_append]
    have h1 := ih (by omega)
    have h2 := h k (by omega)
    have h3 := (Ch.admit_len (Ch.withoutH (Ch.lkAt ls k).hs t) (Ch.withoutH (Ch.lkAt ls k).qs t)).2
    have h4 := Ch.without_len (Ch.lkAt ls k).qs t
    unfold Ch.freeGot
    omega
theorem Ch.size_bound {ls : List Ch.Lock} {N : Nat} (h : ∀ l ∈ ls, l.hs.length + l.qs.length ≤ N) : Ch.lkSize ls ≤ (N + 1) * ls.length := by
  induction ls with
  | nil => simp [Ch.lkSize, Ch.lkSum]
  | cons l ls ih =>
    have h1 := ih (fun x hx => h x (by simp [hx]))
    have h2 := h l (by simp)
    unfold Ch.lkSize Ch.lkSum at *
    simp only [List.map_cons, List.sum_cons, List.length_cons, Nat.mul_add, Nat.mul_one]
    omega
theorem Ch.good_at {ls : List Ch.Lock} (h : Ch.locksFault ls = 0) {i : Nat} (hi : i < ls.length) : (Ch.lkAt ls i).hs.length ≤ 20 ∧ (Ch.lkAt ls i).qs.length ≤ 20 ∧ Ch.namesH (Ch.lkAt ls i).hs = true ∧ Ch.namesH (Ch.lkAt ls i).qs = true ∧ Ch.twice (Ch.lkAt ls i).qs = false := by
  have := Ch.lock_good (Ch.one_good ((Ch.locks_good h).1 i hi)).2.2.2
  exact ⟨this.1, this.2.1, this.2.2.1, this.2.2.2.1, this.2.2.2.2.2.1⟩
theorem Ch.freeOne_len (l : Ch.Lock) (t : Int) : (Ch.freeOne l t).hs.length + (Ch.freeOne l t).qs.length ≤ l.hs.length + l.qs.length := by
  have h1 := (Ch.admit_len (Ch.withoutH l.hs t) (Ch.withoutH l.qs t)).1
  have h2 := Ch.without_len l.hs t
  have h3 := Ch.without_len l.qs t
  unfold Ch.freeOne
  simp only
  omega
theorem Ch.freeAll_mem {ls : List Ch.Lock} (h : Ch.locksFault ls = 0) (t : Int) : ∀ l ∈ Ch.freeAll ls t, l.hs.length + l.qs.length ≤ 40 := by
  intro l hl
  unfold Ch.freeAll at hl
  rw [List.mem_map] at hl
  obtain ⟨l0, hl0, rfl⟩ := hl
  obtain ⟨i, hi, rfl⟩ := List.getElem_of_mem hl0
  have h1 := Ch.good_at h hi
  have e : Ch.lkAt ls i = ls[i] := by simp [Ch.lkAt, List.getD, hi]
  rw [e] at h1
  have := Ch.freeOne_len ls[i] t
  omega
theorem Ch.freeAll_size {ls : List Ch.Lock} (h : Ch.locksFault ls = 0) (t : Int) : Ch.lkSize (Ch.freeAll ls t) ≤ 5000 := by
  have h1 := Ch.size_bound (Ch.freeAll_mem h t)
  have h2 := Ch.good_few h
  have h3 : (Ch.freeAll ls t).length = ls.length := by simp [Ch.freeAll]
  omega
theorem Ch.free_size {ls : List Ch.Lock} (h : Ch.locksFault ls = 0) (t : Int) : Ch.lkSize ((Ch.freeAll ls t).filter Ch.usedL) ≤ 5000 := by
  have h1 := Ch.size_bound (ls := (Ch.freeAll ls t).filter Ch.usedL) (N := 40) (fun l hl => Ch.freeAll_mem h t l (List.mem_filter.1 hl).1)
  have h2 := Ch.good_few h
  have h3 : (Ch.freeAll ls t).length = ls.length := by simp [Ch.freeAll]
  have h4 := List.length_filter_le Ch.usedL (Ch.freeAll ls t)
  omega
theorem row4 {W : World} {g : Nat} {t : TypeId} {u0 u1 u2 u3 : Value} (h : W.heap[g]? = some (.cells #[u0, u1, u2, u3] t (0, 0))) :
    (W.cell? ⟨g, 0, none⟩ = some u0 ∧ W.cell? ⟨g, 1, none⟩ = some u1 ∧ W.cell? ⟨g, 2, none⟩ = some u2 ∧ W.cell? ⟨g, 3, none⟩ = some u3) ∧ (W.frozen? ⟨g, 0, none⟩ = false ∧ W.frozen? ⟨g, 1, none⟩ = false ∧ W.frozen? ⟨g, 2, none⟩ = false ∧ W.frozen? ⟨g, 3, none⟩ = false) :=
  ⟨⟨cell_of_row _ _ _ _ _ _ h, cell_of_row _ _ _ _ _ _ h, cell_of_row _ _ _ _ _ _ h, cell_of_row _ _ _ _ _ _ h⟩, frz_of h, frz_of h, frz_of h, frz_of h⟩
theorem heap_lower {B : Nat} {w w' : World} (hb : Below B w w') {b : Nat} (hB : b < B) {o : Obj} (h : w.heap[b]? = some o) : w'.heap[b]? = some o := (hb.block b hB).trans h
theorem OwnK.other {T : TypeId} {w w' : World} {B n : Nat} {v : Value} {ls : List Ch.Lock} {vs : List (Value × Value)} (h : OwnK T w B v n ls vs) {row : Option Nat} (gr : w.grownBy w' row) (hr : ∀ g, row = some g → g ∉ v.ownBlock.toList ++ vs.flatMap blks) : OwnK T w' B v n ls vs := by
  refine ⟨h.len, h.vlen, owns_grown h.row gr fun g hg e => hr g e (List.mem_append.2 (.inl (by simp [hg]))), fun i q hq => owns_grown (h.hs i q hq) gr fun g hg e => hr g e ?_, fun i q hq => owns_grown (h.qs i q hq) gr fun g hg e => hr g e ?_, h.apart⟩
  · exact List.mem_append.2 (.inr (List.mem_flatMap.2 ⟨q, List.mem_of_getElem? hq, by simp [blks, hg]⟩))
  · exact List.mem_append.2 (.inr (List.mem_flatMap.2 ⟨q, List.mem_of_getElem? hq, by simp [blks, hg]⟩))

/-- What FreeLocks and AskLock answer, in memory of its own. -/
def LkRes (w : World) (B : Nat) (a1 : Option Addr) (m1 c1 : Nat) (zs : List Int) (a2 : Option Addr) (m2 c2 : Nat) (ls : List Ch.Lock) (vs : List (Value × Value)) : Prop :=
  w.ownsRow B 2 1 (.slice a1 m1 c1) m1 (icells zs) ∧ OwnK 129 w B (.slice a2 m2 c2) m2 ls vs ∧ (∀ g, (Value.slice a1 m1 c1).ownBlock = some g → g ∉ (Value.slice a2 m2 c2).ownBlock.toList ++ vs.flatMap blks) ∧ m1 ≤ 1048576 ∧ Ch.lkSize ls ≤ 1048576

end Go.Proofs.Ytjagobcogkdfhaa
