/- Contracts of square roots, program and model alike. Conditions: numbers that are not negative. Contracts of WideSqrt and SqrtFloor, program and model alike, and their laws. Conditions: numbers are int64 or Wide. Contracts of SqrtFloor, program and model alike, and the laws of WideSqrt and SqrtFloor. Conditions: numbers are int64 or Wide. -/
import Derived.Test.YtohidondlndkhaaDoorWideL
import Derived.Test.YtohidondlndkhaaDoorNumZ
import Derived.OwnWalk
import Derived.Outline
import Derived.Test.YtohidondlndkhaaDoorWideZe
import Derived.Deep.RegionHeld3
namespace Go.Proofs.YtohidondlndkhaaDoor
open Go.ChangeShapes Go.WideShapes Go.ChangeAt Go.RowKit
set_option linter.unusedVariables false
set_option maxRecDepth 100000
set_option linter.unusedSimpArgs false
set_option maxHeartbeats 1000000

end Go.Proofs.YtohidondlndkhaaDoor
namespace Go.Proofs.YtohidondlndkhaaDoor
open Go.ChangeShapes Go.WideShapes Go.ChangeAt Go.RowKit
set_option linter.unusedVariables false
set_option maxRecDepth 100000
set_option linter.unusedSimpArgs false
set_option maxHeartbeats 1000000

/-- The root of a wide integer; 0 if it is negative. -/
def sqW (v : Int) : Int := if v < 0 then 0 else (rootW v.toNat : Int)
def sqOk (v : Int) : Bool := decide (¬ v < 0)
end Go.Proofs.YtohidondlndkhaaDoor
namespace Go.Proofs.YtohidondlndkhaaDoor
open Go.ChangeShapes Go.WideShapes Go.ChangeAt Go.RowKit
set_option linter.unusedVariables false
set_option maxRecDepth 100000
set_option linter.unusedSimpArgs false
set_option maxHeartbeats 1000000

/-- The root of a product; 0 if a factor is negative. -/
def sfI (a b : Int) : Int := if a < 0 ∨ b < 0 then 0 else wrap64 (rootW (a * b).toNat : Int)
def sfB (a b : Int) : Bool := decide (¬ (a < 0 ∨ b < 0))
end Go.Proofs.YtohidondlndkhaaDoor
