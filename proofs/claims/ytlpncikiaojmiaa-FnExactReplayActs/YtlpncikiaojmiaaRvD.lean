
/- CommittedOf of the program and of the model. -/
import Derived.Test.YtlpncikiaojmiaaMz0
namespace Go.Proofs.Ytlpncikiaojmiaa
open Go.RowKit

end Go.Proofs.Ytlpncikiaojmiaa
