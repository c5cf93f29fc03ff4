
/- CommittedOf of the program and of the model. -/
import Derived.Test.YtoijjjckdggglaaGreatRvC
namespace Go.Proofs.YtoijjjckdggglaaGreat
open Go.RowKit

theorem rec_new (w : World) (rk rt ry : Int) (rh : Bool) (ro : Int) (rx : Bool) (rn : Int) :
    (w.alloc (.cells #[.int .i64 rk, .int .i64 rt, .int .i64 ry, .bool rh, .int .i64 ro, .bool rx, .int .i64 rn] 54)).cell? ⟨w.heap.size, 0, none⟩ = some (.int .i64 rk) ∧ (w.alloc (.cells #[.int .i64 rk, .int .i64 rt, .int .i64 ry, .bool rh, .int .i64 ro, .bool rx, .int .i64 rn] 54)).cell? ⟨w.heap.size, 1, none⟩ = some (.int .i64 rt) :=
  ⟨cell_of_row _ _ _ _ _ _ (heap_alloc_new w _), cell_of_row _ _ _ _ _ _ (heap_alloc_new w _)⟩

end Go.Proofs.YtoijjjckdggglaaGreat
