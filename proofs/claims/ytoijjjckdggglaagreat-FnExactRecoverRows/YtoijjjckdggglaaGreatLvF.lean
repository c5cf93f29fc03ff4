
/- LeavesFault of the model and of the program. -/
import Derived.Test.YtoijjjckdggglaaGreatLvE
namespace Go.Proofs.YtoijjjckdggglaaGreat
open Go.RowKit

end Go.Proofs.YtoijjjckdggglaaGreat
