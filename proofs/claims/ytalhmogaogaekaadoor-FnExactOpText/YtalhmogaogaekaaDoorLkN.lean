
/- Lists of numbers: cells, comparisons, marks. -/
import Derived.Test.YtalhmogaogaekaaDoorSmall
import Derived.Test.YtalhmogaogaekaaDoorHd
namespace Go.Proofs.YtalhmogaogaekaaDoor
open Go.RowKit

def icells (zs : List Int) : List Value := zs.map (Value.int .i64)
theorem icells_len (zs : List Int) : (icells zs).length = zs.length := by simp [icells]
theorem icells_append (a b : List Int) : icells (a ++ b) = icells a ++ icells b := by simp [icells]
theorem icells_one' (zs : List Int) : ∀ u ∈ icells zs, u.oneCell' = true := by
  intro x hx
  simp only [icells, List.mem_map] at hx
  obtain ⟨r, _, rfl⟩ := hx
  rfl
theorem Tryd.info2 : (Tryd.prog.info? 2).map (fun i => (i.zero, i.size, i.bytes)) = some (some (.int .i64 0), 1, 8) := by kernel_rfl
theorem CellsAt.ilen {w : World} {a : Option Addr} {n : Nat} {zs : List Int} (h : CellsAt w a (n * 1) (icells zs)) : Hid (n = zs.length) := by
  have := h.1
  rw [icells_len] at this
  exact (by omega : n = zs.length)
theorem CellsAt.int {w : World} {a : Option Addr} {n : Nat} {zs : List Int} (h : CellsAt w a (n * 1) (icells zs)) {k : Nat} (hk : k < n) :
    ∃ b off, a = some ⟨b, off, none⟩ ∧ w.cell? ⟨b, off + k, none⟩ = some (.int .i64 (zs.getD k 0)) := by
  obtain ⟨b, off, ha, hc⟩ := h.2 (by omega)
  have hl := h.ilen.out
  refine ⟨b, off, ha, (hc k (by omega)).trans ?_⟩
  simp [icells, List.getD, show k < zs.length by omega]
theorem icells_set (zs : List Int) (k : Nat) (v : Int) : (icells zs).set k (.int .i64 v) = icells (zs.set k v) := by simp [icells, List.map_set]

/-- The marks that a law writes into numbers, the first one s. -/
def imarks (s : Int) (n : Nat) : List Int := (List.range n).map fun (i : Nat) => s + (i : Int)
theorem imarks_len (s : Int) (n : Nat) : (imarks s n).length = n := by simp [imarks]
theorem imarks_snoc (s : Int) (n : Nat) : imarks s (n + 1) = imarks s n ++ [s + (n : Int)] := by simp [imarks, List.range_succ]
theorem imarks_at (s : Int) (n k : Nat) (h : k < n) : (imarks s n).getD k 0 = s + (k : Int) := by simp [imarks, List.getD, h]
def imarked (s : Int) (zs : List Int) (k : Nat) : List Int := imarks s k ++ zs.drop k
theorem imarked_set (s : Int) (zs : List Int) (k : Nat) (h : k < zs.length) : (icells (imarked s zs k)).set k (.int .i64 (s + (k : Int))) = icells (imarked s zs (k + 1)) := by
  rw [icells_set]
  unfold imarked
  rw [Ch.set_mid _ _ _ _ (imarks_len s k) h, imarks_snoc]

end Go.Proofs.YtalhmogaogaekaaDoor
