
/- SameRows of the model and of the program. -/
import Derived.Test.YtjagobcogkdfhaaFillI
import Derived.BigQuiet
import Derived.Laws.StructEq
namespace Go.Proofs.Ytjagobcogkdfhaa
open Go.RowKit

theorem bel_drewN {B : Nat} {w w' : World} (h : Below B w w') (q : Nat) : Below B w (w'.drewN q) := ⟨h.os, h.tape, h.output, h.size, h.block⟩
/-- Two rows compared. -/
theorem equalRow (k v : Int) (g : Bool) (k' v' : Int) (g' : Bool) (w : World) :
    (Op.equalIn 10000 33 (.agg #[.int .i64 k, .int .i64 v, .bool g]) (.agg #[.int .i64 k', .int .i64 v', .bool g'])).run Try.prog w = .ok (k == k' && (v == v' && g == g')) w := by
  have hS : Try.prog.underlying 33 = some (.struct (Try.prog.fieldsOf 33)) := by kernel_rfl
  have hp : Try.prog.stoodInHeld 33 = false := by kernel_rfl
  have u2 := Try.underlying2
  have a2 := Try.isAgg2
  have z2 := Try.sizeOf2
  have u4 := Try.underlying4
  have a4 := Try.isAgg4
  have z4 := Try.sizeOf4
  rw [show (10000 : Nat) = 9999 + 1 from rfl, run_equalIn_agg w 9999 33 _ _ hS hp]
  simp only [Program.fieldsOf, Try.underlying33]
  go_simp
  cases g <;> cases g' <;> by_cases h1 : k = k' <;> by_cases h2 : v = v' <;> simp [h1, h2]
theorem neqRow (k v : Int) (g : Bool) (k' v' : Int) (g' : Bool) (w : World) :
    (binOp .neq 33 (.agg #[.int .i64 k, .int .i64 v, .bool g]) (.agg #[.int .i64 k', .int .i64 v', .bool g'])).run Try.prog w = .ok (.bool (!(k == k' && (v == v' && g == g')))) w := by
  rw [run_neq_struct, equalRow]
  rfl

theorem rowsR_mem (ls : List (List Ch.Row)) : ((Ch.rowsR ls).1 != 0) = (Ch.leavesFault ls != 0) := by
  unfold Ch.rowsR
  split
  · rename_i h; rw [h]
  · rfl

end Go.Proofs.Ytjagobcogkdfhaa
