
/- Leaves and a place drawn. -/
import Derived.Test.YtjagobcogkdfhaaDrawB
namespace Go.Proofs.Ytjagobcogkdfhaa
open Go.RowKit

end Go.Proofs.Ytjagobcogkdfhaa
