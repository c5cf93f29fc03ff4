
/- slices.Sort of numbers: the shelf's contract, laid. -/
import Derived.Test.YtoijjjckdggglaaProg
import Derived.Shelf.SortM.Plain
import Derived.Shelf.SortM.SortNone
import Derived.Shelf.SlGeneric
import Derived.Ground.SlgmProg
import Derived.Sort.OwnSortedInts
namespace Go.Proofs
open Go.Shelf Go.Sort Go.RowKit
namespace Ytoijjjckdggglaa
shelf_lay_g SlLaysM.n5 Slgm 5 at Try 60 as Try.sortInts

end Ytoijjjckdggglaa
end Go.Proofs
