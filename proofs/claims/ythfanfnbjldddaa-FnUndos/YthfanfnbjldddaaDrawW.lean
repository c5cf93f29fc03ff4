
/- Leaves and a place drawn. -/
import Derived.Test.YthfanfnbjldddaaDrawB
namespace Go.Proofs.Ythfanfnbjldddaa
open Go.RowKit

end Go.Proofs.Ythfanfnbjldddaa
