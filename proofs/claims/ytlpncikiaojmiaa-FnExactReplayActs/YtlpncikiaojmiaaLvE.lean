
/- Walks on leaves: comparisons; LeavesFault of the model and of the program. -/
import Derived.Test.YtlpncikiaojmiaaLvW
namespace Go.Proofs.Ytlpncikiaojmiaa
open Go.RowKit

end Go.Proofs.Ytlpncikiaojmiaa
