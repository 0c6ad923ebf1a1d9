/- The laws of whole intervals, integers and quotients. Conditions: numbers are int64. -/
import Derived.Test.YtnnanbaldcjfiaaGreatDoorIvK
import Derived.Test.YtnnanbaldcjfiaaGreatDoorIvE
import Derived.Test.YtnnanbaldcjfiaaGreatDoorIvN
import Derived.Outline
namespace Go.Proofs.YtnnanbaldcjfiaaGreatDoor
open Go.ChangeShapes Go.WideShapes Go.ChangeAt Go.RowKit
set_option linter.unusedVariables false
set_option maxRecDepth 100000
set_option linter.unusedSimpArgs false
set_option maxHeartbeats 1000000

end Go.Proofs.YtnnanbaldcjfiaaGreatDoor
