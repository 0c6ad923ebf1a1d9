/- The contract of the model's long division. Conditions: the dividend's halves are uint64, the divisor is from 1 to 2^63. -/
import Derived.Test.YtmikjgbojknlnaaDoorWideZe
import Derived.Test.YtmikjgbojknlnaaDoorNumZ
import Derived.OwnWalk
namespace Go.Proofs.YtmikjgbojknlnaaDoor
open Go.ChangeShapes Go.WideShapes Go.ChangeAt Go.RowKit
set_option linter.unusedVariables false
set_option maxRecDepth 100000
set_option linter.unusedSimpArgs false
set_option maxHeartbeats 1000000

end Go.Proofs.YtmikjgbojknlnaaDoor
