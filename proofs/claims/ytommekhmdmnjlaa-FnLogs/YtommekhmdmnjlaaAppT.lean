
/- AppendWal of the model, where log and record have no fault. -/
import Derived.Test.YtommekhmdmnjlaaAppS
namespace Go.Proofs.Ytommekhmdmnjlaa
open Go.RowKit

end Go.Proofs.Ytommekhmdmnjlaa
