/- Contracts of quotients and products of fixes in the model. Conditions: numbers are int64. -/
import Derived.Test.YtmikjgbojknlnaaDoorNumZ
import Derived.Test.YtmikjgbojknlnaaDoorFixA
namespace Go.Proofs.YtmikjgbojknlnaaDoor
open Go.ChangeShapes Go.WideShapes Go.ChangeAt Go.RowKit
set_option linter.unusedVariables false
set_option maxRecDepth 100000
set_option linter.unusedSimpArgs false
set_option maxHeartbeats 1000000

theorem md_unit (a d : Int) : mdI a 4294967296 d = (if 1 ≤ d then intW (a * 4294967296 / d) else 0) ∧ mdB a 4294967296 d = (if 1 ≤ d then okW (a * 4294967296 / d) else false) := ⟨rfl, rfl⟩
end Go.Proofs.YtmikjgbojknlnaaDoor
