/- A contract of quotients of intervals in the model. Conditions: numbers are int64. -/
import Derived.Test.YtmikjgbojknlnaaDoorIvV
import Derived.Test.YtmikjgbojknlnaaDoorFixE
import Derived.LoopN
import Derived.Handy
import Derived.Outline
namespace Go.Proofs.YtmikjgbojknlnaaDoor
open Go.ChangeShapes Go.WideShapes Go.ChangeAt Go.RowKit
set_option linter.unusedVariables false
set_option maxRecDepth 100000
set_option linter.unusedSimpArgs false
set_option maxHeartbeats 1000000

end Go.Proofs.YtmikjgbojknlnaaDoor
