
/- Walks on leaves: comparisons; LeavesFault of the model and of the program. -/
import Derived.Test.YtoijjjckdggglaaLvW
namespace Go.Proofs.Ytoijjjckdggglaa
open Go.RowKit

end Go.Proofs.Ytoijjjckdggglaa
