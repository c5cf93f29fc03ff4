
/- slices.Compact of numbers: the shelf's contract, laid. -/
import Derived.Test.YtpbbokalojdooaaGreatProg
import Derived.Shelf.SlicesG.CompactI
import Derived.Shelf.SlGeneric
import Derived.Shelf.Lay
import Derived.Ground.SlgnProg
import Derived.Lib.OwnBridge
namespace Go.Proofs
open Go.Shelf Go.RowKit Go.Lib Go.Sort
namespace YtpbbokalojdooaaGreat
shelf_lay_g SlLaysN.n43 Slgn 43 at Tryz 58 as Tryz.compactI

end YtpbbokalojdooaaGreat
end Go.Proofs
