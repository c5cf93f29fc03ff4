
/- The law FnExactLocksFault. -/
import Derived.Test.YtjagobcogkdfhaaLkTZ
namespace Go.Proofs.Ytjagobcogkdfhaa
open Go.RowKit

end Go.Proofs.Ytjagobcogkdfhaa
