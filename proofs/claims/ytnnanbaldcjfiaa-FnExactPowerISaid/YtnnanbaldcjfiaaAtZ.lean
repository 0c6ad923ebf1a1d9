/- The program's two intervals: what a call keeps; own cells behind stores; small contracts. Conditions: as each lemma says. -/
import Derived.Test.YtnnanbaldcjfiaaAnyS
import Derived.Test.YtnnanbaldcjfiaaNumX
import Derived.Test.YtnnanbaldcjfiaaIvA
import Derived.Test.YtnnanbaldcjfiaaIvV
import Derived.Deep.RegionHeld3
import Derived.Outline
namespace Go.Proofs.Ytnnanbaldcjfiaa
open Go.ChangeShapes Go.WideShapes Go.ChangeAt Go.RowKit
set_option linter.unusedVariables false
set_option maxRecDepth 100000
set_option linter.unusedSimpArgs false
set_option maxHeartbeats 1000000
end Go.Proofs.Ytnnanbaldcjfiaa
