
/- LeavesFault of the model and of the program. -/
import Derived.Test.YtoijjjckdggglaaLvE
namespace Go.Proofs.Ytoijjjckdggglaa
open Go.RowKit

end Go.Proofs.Ytoijjjckdggglaa
