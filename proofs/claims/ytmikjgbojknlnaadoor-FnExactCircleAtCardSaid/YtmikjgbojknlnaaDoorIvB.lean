/- Contracts of the test whether all intervals of a list are bounded. Conditions: numbers are int64. -/
import Derived.Test.YtmikjgbojknlnaaDoorIvA
import Derived.LoopN
import Derived.Handy
import Derived.Outline
namespace Go.Proofs.YtmikjgbojknlnaaDoor
open Go.ChangeShapes Go.WideShapes Go.ChangeAt Go.RowKit
set_option linter.unusedVariables false
set_option maxRecDepth 100000
set_option linter.unusedSimpArgs false
set_option maxHeartbeats 1000000

end Go.Proofs.YtmikjgbojknlnaaDoor
