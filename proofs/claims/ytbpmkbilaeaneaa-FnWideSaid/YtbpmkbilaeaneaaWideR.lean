/- Contracts of SqrtFloor, program and model alike, and the laws of WideSqrt and SqrtFloor. Conditions: numbers are int64 or Wide. -/
import Derived.Test.YtbpmkbilaeaneaaWideQ
namespace Go.Proofs.Ytbpmkbilaeaneaa
open Go.ChangeShapes Go.WideShapes Go.ChangeAt Go.RowKit
set_option linter.unusedVariables false
set_option maxRecDepth 100000
set_option linter.unusedSimpArgs false
set_option maxHeartbeats 1000000

/-- The root of a product; 0 if a factor is negative. -/
def sfI (a b : Int) : Int := if a < 0 ∨ b < 0 then 0 else wrap64 (rootW (a * b).toNat : Int)
def sfB (a b : Int) : Bool := decide (¬ (a < 0 ∨ b < 0))
end Go.Proofs.Ytbpmkbilaeaneaa
