
/- Walks on leaves: comparisons; LeavesFault of the model and of the program. -/
import Derived.Test.YtoijjjckdggglaaGreatLvW
namespace Go.Proofs.YtoijjjckdggglaaGreat
open Go.RowKit

end Go.Proofs.YtoijjjckdggglaaGreat
