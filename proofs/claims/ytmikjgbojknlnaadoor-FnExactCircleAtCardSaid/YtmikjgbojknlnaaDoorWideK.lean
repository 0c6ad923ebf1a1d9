/- The contract of math/bits.Div64, the walk. Conditions: uint64 numbers, the high half less than the divisor. -/
import Derived.Test.YtmikjgbojknlnaaDoorWideZi
import Derived.OwnWalk
namespace Go.Proofs.YtmikjgbojknlnaaDoor
open Go.ChangeShapes Go.WideShapes Go.ChangeAt Go.RowKit
set_option linter.unusedVariables false
set_option maxRecDepth 100000
set_option linter.unusedSimpArgs false
set_option maxHeartbeats 1000000

end Go.Proofs.YtmikjgbojknlnaaDoor
