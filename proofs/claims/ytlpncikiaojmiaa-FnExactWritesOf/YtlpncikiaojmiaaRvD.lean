
/- CommittedOf of the program and of the model. -/
import Derived.Test.YtlpncikiaojmiaaRvC
namespace Go.Proofs.Ytlpncikiaojmiaa
open Go.RowKit

end Go.Proofs.Ytlpncikiaojmiaa
