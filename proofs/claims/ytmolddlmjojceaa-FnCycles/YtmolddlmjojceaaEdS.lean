
/- slices.SortFunc of edges, laid. -/
import Derived.Test.YtmolddlmjojceaaBase
import Derived.Test.YtmolddlmjojceaaProg
import Derived.Shelf.SlSortCmp.WholeK
import Derived.Shelf.SlLaysF0
import Derived.Shelf.Lay
import Derived.Ground.SlsfProg
namespace Go.Proofs.Ytmolddlmjojceaa
open Go.Shelf Go.RowKit Go.Lib Go.Sort
shelf_lay_g SlLaysF0.n6 Slsf 6 at Try 31 as Try.sortEdges
end Go.Proofs.Ytmolddlmjojceaa
