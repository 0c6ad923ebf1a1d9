/- Contracts of quarter turns, program and model. Conditions: numbers are int64. -/
import Derived.Test.YtnnanbaldcjfiaaTrA
import Derived.Outline
namespace Go.Proofs.Ytnnanbaldcjfiaa
open Go.ChangeShapes Go.WideShapes Go.ChangeAt Go.RowKit
set_option linter.unusedVariables false
set_option maxRecDepth 100000
set_option linter.unusedSimpArgs false
set_option maxHeartbeats 1000000
end Go.Proofs.Ytnnanbaldcjfiaa
