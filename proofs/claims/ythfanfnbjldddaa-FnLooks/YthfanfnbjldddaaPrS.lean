
/- slices.SortFunc of pairs, laid. -/
import Derived.Test.YthfanfnbjldddaaBase
import Derived.Test.YthfanfnbjldddaaProg
import Derived.Shelf.SlSortCmp.WholeK
import Derived.Shelf.SlLaysF0
import Derived.Shelf.Lay
import Derived.Ground.SlsfProg
namespace Go.Proofs.Ythfanfnbjldddaa
open Go.Shelf Go.RowKit Go.Lib Go.Sort
shelf_lay_g SlLaysF0.n6 Slsf 6 at Try 92 as Try.sortPairs
end Go.Proofs.Ythfanfnbjldddaa
