
/- Edges in memory (two numbers each, as holds): the laws' functions on them. -/
import Derived.Test.YtmolddlmjojceaaSmall
import Derived.Test.YtmolddlmjojceaaRecW
import Derived.Test.YtmolddlmjojceaaHd
import Derived.Test.YtmolddlmjojceaaLkN
namespace Go.Proofs.Ytmolddlmjojceaa
open Go.RowKit

theorem Try.info33 : (Try.prog.info? 33).map (fun i => (i.zero, i.size, i.bytes)) = some (some (.agg #[.int .i64 0, .int .i64 0]), 2, 16) := by kernel_rfl

end Go.Proofs.Ytmolddlmjojceaa
