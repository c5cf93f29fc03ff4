
/- LeavesFault of the model and of the program. -/
import Derived.Test.YtlpncikiaojmiaaLvE
namespace Go.Proofs.Ytlpncikiaojmiaa
open Go.RowKit

end Go.Proofs.Ytlpncikiaojmiaa
