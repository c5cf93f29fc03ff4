
/- The law FnExactLeavesFault. -/
import Derived.Test.YtoijjjckdggglaaLvF
namespace Go.Proofs.Ytoijjjckdggglaa
open Go.RowKit

theorem small_at {ls : List (List Ch.Row)} (hs : Ch.lvSize ls ≤ 1048576) : ∀ i, (ls.getD i []).length ≤ 9223372036854775807 := fun i => by have := Ch.lv_leaf hs i; omega

end Go.Proofs.Ytoijjjckdggglaa
