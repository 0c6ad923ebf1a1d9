/- Contracts of the series of the arc tangent, program and model. Conditions: numbers are int64; the program's two intervals are laid. -/
import Derived.Test.YtmikjgbojknlnaaDoorNumX
import Derived.Test.YtmikjgbojknlnaaDoorAtZ
import Derived.Test.YtmikjgbojknlnaaDoorIvD
import Derived.Test.YtmikjgbojknlnaaDoorIvE
import Derived.Test.YtmikjgbojknlnaaDoorIvF
import Derived.Test.YtmikjgbojknlnaaDoorIvN
import Derived.Test.YtmikjgbojknlnaaDoorIvM
import Derived.Test.YtmikjgbojknlnaaDoorIvW
import Derived.Test.YtmikjgbojknlnaaDoorIvX
import Derived.Test.YtmikjgbojknlnaaDoorIvT
import Derived.Test.YtmikjgbojknlnaaDoorIvS
import Derived.Test.YtmikjgbojknlnaaDoorIvR
import Derived.Test.YtmikjgbojknlnaaDoorIvV
import Derived.Test.YtmikjgbojknlnaaDoorIvLd
import Derived.LoopN
import Derived.Handy
import Derived.Deep.RegionHeld3
import Derived.Outline
namespace Go.Proofs.YtmikjgbojknlnaaDoor
open Go.ChangeShapes Go.WideShapes Go.ChangeAt Go.RowKit
set_option linter.unusedVariables false
set_option maxRecDepth 100000
set_option linter.unusedSimpArgs false
set_option maxHeartbeats 1000000
end Go.Proofs.YtmikjgbojknlnaaDoor
