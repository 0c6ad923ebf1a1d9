/- The laws of whole intervals, integers and quotients. Conditions: numbers are int64. -/
import Derived.Test.YtnnanbaldcjfiaaDoorIvK
import Derived.Test.YtnnanbaldcjfiaaDoorIvE
import Derived.Test.YtnnanbaldcjfiaaDoorIvN
import Derived.Outline
namespace Go.Proofs.YtnnanbaldcjfiaaDoor
open Go.ChangeShapes Go.WideShapes Go.ChangeAt Go.RowKit
set_option linter.unusedVariables false
set_option maxRecDepth 100000
set_option linter.unusedSimpArgs false
set_option maxHeartbeats 1000000

end Go.Proofs.YtnnanbaldcjfiaaDoor
