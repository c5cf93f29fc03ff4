
/- slices.SortFunc of edges, laid. -/
import Derived.Test.YtndihplibdhogaaBase
import Derived.Test.YtndihplibdhogaaProg
import Derived.Shelf.SlSortCmp.WholeK
import Derived.Shelf.SlLaysF0
import Derived.Shelf.Lay
import Derived.Ground.SlsfProg
namespace Go.Proofs.Ytndihplibdhogaa
open Go.Shelf Go.RowKit Go.Lib Go.Sort
shelf_lay_g SlLaysF0.n6 Slsf 6 at Try 45 as Try.sortEdges
end Go.Proofs.Ytndihplibdhogaa
