/- The contracts of WideDiv, program and model alike. Conditions: a Wide and an int64. The contracts of MulDivFloor, program and model alike, and the laws of WideDiv and MulDivFloor. Conditions: numbers are int64 or Wide. -/
import Derived.Test.YtmikjgbojknlnaaDoorWideL
import Derived.Test.YtmikjgbojknlnaaDoorWideH
namespace Go.Proofs.YtmikjgbojknlnaaDoor
open Go.ChangeShapes Go.WideShapes Go.ChangeAt Go.RowKit
set_option linter.unusedVariables false
set_option maxRecDepth 100000
set_option linter.unusedSimpArgs false
set_option maxHeartbeats 1000000

end Go.Proofs.YtmikjgbojknlnaaDoor
namespace Go.Proofs.YtmikjgbojknlnaaDoor
open Go.ChangeShapes Go.WideShapes Go.ChangeAt Go.RowKit
set_option linter.unusedVariables false
set_option maxRecDepth 100000
set_option linter.unusedSimpArgs false
set_option maxHeartbeats 1000000

/-- A product, divided by a number: the number, and whether it is an int64. -/
def mdI (a b d : Int) : Int := if 1 ≤ d then intW (a * b / d) else 0
def mdB (a b d : Int) : Bool := if 1 ≤ d then okW (a * b / d) else false
end Go.Proofs.YtmikjgbojknlnaaDoor
