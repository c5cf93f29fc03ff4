
/- The law FnExactLocksFault. -/
import Derived.Test.YtbeolkklnlljcaaLkT
namespace Go.Proofs.Ytbeolkklnlljcaa
open Go.RowKit

end Go.Proofs.Ytbeolkklnlljcaa
