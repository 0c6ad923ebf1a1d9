/- The contract of the model's long division. Conditions: the dividend's halves are uint64, the divisor is from 1 to 2^63. -/
import Derived.Test.YtnfkddaigfjigaaWideF
import Derived.Test.YtnfkddaigfjigaaNumE
import Derived.OwnWalk
namespace Go.Proofs.Ytnfkddaigfjigaa
open Go.ChangeShapes Go.WideShapes Go.ChangeAt Go.RowKit
set_option linter.unusedVariables false

end Go.Proofs.Ytnfkddaigfjigaa
