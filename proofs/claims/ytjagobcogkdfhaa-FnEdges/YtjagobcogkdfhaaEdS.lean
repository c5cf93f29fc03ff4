
/- slices.SortFunc of edges, laid. -/
import Derived.Test.YtjagobcogkdfhaaBase
import Derived.Test.YtjagobcogkdfhaaProg
import Derived.Shelf.SlSortCmp.WholeK
import Derived.Shelf.SlLaysF0
import Derived.Shelf.Lay
import Derived.Ground.SlsfProg
namespace Go.Proofs.Ytjagobcogkdfhaa
open Go.Shelf Go.RowKit Go.Lib Go.Sort
shelf_lay_g SlLaysF0.n6 Slsf 6 at Try 154 as Try.sortEdges
end Go.Proofs.Ytjagobcogkdfhaa
