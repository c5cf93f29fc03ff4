
/- What each key has, in memory: an array of a hundred slots; set of the program. -/
import Derived.Test.YtoijjjckdggglaaRdM
import Derived.Test.YtoijjjckdggglaaRvC
import Derived.Lib.SliceRun
namespace Go.Proofs.Ytoijjjckdggglaa
open Go.RowKit

def slcells (S : Ch.Sl) : List Value := (List.range 100).flatMap (fun i : Nat => [.bool (S i).isSome, .int .i64 ((S i).getD 0)])
def slA (S : Ch.Sl) : Array Value := (slcells S).toArray
theorem pairs_len (f : Nat → List Value) (hf : ∀ i, (f i).length = 2) : ∀ m, ((List.range m).flatMap f).length = 2 * m := by
  intro m
  induction m with
  | zero => rfl
  | succ m ih => rw [List.range_succ, List.flatMap_append, List.length_append, ih]; simp [hf]; omega
theorem pairs_at (f : Nat → List Value) (hf : ∀ i, (f i).length = 2) : ∀ m i j, i < m → j < 2 → ((List.range m).flatMap f)[2 * i + j]? = (f i)[j]? := by
  intro m
  induction m with
  | zero => intro i j h; omega
  | succ m ih =>
    intro i j hi hj
    rw [List.range_succ, List.flatMap_append]
    have hl := pairs_len f hf m
    by_cases e : i < m
    · rw [List.getElem?_append_left (by rw [hl]; omega), ih i j e hj]
    · obtain rfl : i = m := by omega
      rw [List.getElem?_append_right (by rw [hl]; omega), hl]
      simp [show 2 * i + j - 2 * i = j by omega]
theorem slcells_len (S : Ch.Sl) : (slcells S).length = 200 := pairs_len _ (fun _ => rfl) 100
theorem slcells_at (S : Ch.Sl) {i j : Nat} (hi : i < 100) (hj : j < 2) : (slcells S)[2 * i + j]? = [Value.bool (S i).isSome, .int .i64 ((S i).getD 0)][j]? := pairs_at _ (fun _ => rfl) 100 i j hi hj
theorem slcells_set (S : Ch.Sl) {k : Nat} (hk : k < 100) (o : Option Int) : ((slcells S).set (2 * k) (.bool o.isSome)).set (2 * k + 1) (.int .i64 (o.getD 0)) = slcells (S.set k o) := by
  apply List.ext_getElem?
  intro q
  by_cases hq : q < 200
  · have hi : q / 2 < 100 := by omega
    have hj : q % 2 < 2 := by omega
    have e : q = 2 * (q / 2) + q % 2 := by omega
    have h1 := slcells_at S hi hj
    have h2 := slcells_at (S.set k o) hi hj
    rw [← e] at h1 h2
    rw [h2, List.getElem?_set, List.getElem?_set, List.length_set, slcells_len]
    have hm : q % 2 = 0 ∨ q % 2 = 1 := by omega
    by_cases hqk : q / 2 = k
    · rcases hm with hm | hm
      · rw [if_neg (by omega), if_pos (by omega), if_pos (by omega), hm, hqk]
        simp [Ch.Sl.set]
      · rw [if_pos (by omega), if_pos (by omega), hm, hqk]
        simp [Ch.Sl.set]
    · rw [if_neg (by omega), if_neg (by omega), h1]
      have : (S.set k o) ((q / 2 : Nat) : Int) = S ((q / 2 : Nat) : Int) := by simp only [Ch.Sl.set]; rw [if_neg (by omega)]
      rw [this]
  · rw [List.getElem?_eq_none (by simp [slcells_len]; omega), List.getElem?_eq_none (by rw [slcells_len]; omega)]

/-- The slots in memory. -/
def Slt (w : World) (b : Nat) (S : Ch.Sl) : Prop := w.heap[b]? = some (.cells (slA S) 83 (0, 0))
theorem Slt.lt {w : World} {b : Nat} {S : Ch.Sl} (h : Slt w b S) : b < w.heap.size := (Array.getElem?_eq_some_iff.1 h).1
theorem Slt.cell {w : World} {b : Nat} {S : Ch.Sl} (h : Slt w b S) {i : Nat} (hi : i < 100) : w.cell? ⟨b, 2 * i, none⟩ = some (.bool (S i).isSome) ∧ w.cell? ⟨b, 2 * i + 1, none⟩ = some (.int .i64 ((S i).getD 0)) := by
  have h0 := slcells_at S hi (by omega : 0 < 2)
  have h1 := slcells_at S hi (by omega : 1 < 2)
  have key : ∀ j, w.cell? ⟨b, j, none⟩ = (slcells S)[j]? := fun j => by
    unfold World.cell?
    unfold Slt at h
    simp only [h]
    simp [slA]
  rw [key, key]
  exact ⟨h0, h1⟩
theorem Slt.frozen {w : World} {b : Nat} {S : Ch.Sl} (h : Slt w b S) (i : Nat) : w.frozen? ⟨b, i, none⟩ = false := by
  unfold Slt at h
  simp [World.frozen?, h]
theorem Slt.put {w : World} {b : Nat} {S : Ch.Sl} (h : Slt w b S) {k : Nat} (hk : k < 100) (o : Option Int) : Slt ((w.setCell ⟨b, 2 * k, none⟩ (.bool o.isSome)).setCell ⟨b, 2 * k + 1, none⟩ (.int .i64 (o.getD 0))) b (S.set k o) := by
  have h1 := Joins.block_setCell (i := 2 * k) h (.bool o.isSome)
  have h2 := Joins.block_setCell (i := 2 * k + 1) h1 (.int .i64 (o.getD 0))
  unfold Slt
  rw [h2]
  congr 2
  rw [slA, slA, ← slcells_set S hk o]
  simp
theorem Slt.keep {w w' : World} {b : Nat} {S : Ch.Sl} (h : Slt w b S) {row : Option Nat} (hg : w.grownBy w' row) (hne : row ≠ some b) : Slt w' b S := block_grownV hg h hne
theorem Slt.below {w w' : World} {b : Nat} {S : Ch.Sl} (h : Slt w b S) (hb : Below w.heap.size w w') : Slt w' b S := block_belowV hb h
theorem Slt.alloc {w : World} {b : Nat} {S : Ch.Sl} (h : Slt w b S) (o : Obj) : Slt (w.alloc o) b S := h.below ((Below.refl _ _).alloc (Nat.le_refl _) _)
end Go.Proofs.Ytoijjjckdggglaa
