
/- slices.Sort of numbers: the shelf's contract, laid. -/
import Derived.Test.YtpbbokalojdooaaGreatProg
import Derived.Shelf.SortM.Plain
import Derived.Shelf.SortM.SortNone
import Derived.Shelf.SlGeneric
import Derived.Ground.SlgmProg
import Derived.Sort.OwnSortedInts
namespace Go.Proofs
open Go.Shelf Go.Sort Go.RowKit
namespace YtpbbokalojdooaaGreat
shelf_lay_g SlLaysM.n5 Slgm 5 at Tryz 57 as Tryz.sortInts

end YtpbbokalojdooaaGreat
end Go.Proofs
