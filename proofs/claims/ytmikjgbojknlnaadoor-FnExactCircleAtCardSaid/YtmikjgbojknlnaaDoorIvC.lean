/- Contracts of hulls. Conditions: numbers are int64. -/
import Derived.Test.YtmikjgbojknlnaaDoorIvB
import Derived.Test.YtmikjgbojknlnaaDoorMinMax
import Derived.BigQuiet
import Derived.Deep.QuietTactic
import Derived.BigRegion
import Derived.RegionTactic
import Derived.Outline
namespace Go.Proofs.YtmikjgbojknlnaaDoor
open Go.ChangeShapes Go.WideShapes Go.ChangeAt Go.RowKit
set_option linter.unusedVariables false
set_option maxRecDepth 100000
set_option linter.unusedSimpArgs false
set_option maxHeartbeats 1000000
attribute [local go_sem ↓] run_min_ends run_max_ends

theorem hul4_right (x y z u : Iv) : hul4 x y z u = kn (bnd x && bnd y && bnd z && bnd u) (min x.1 (min y.1 (min z.1 u.1)), max x.2 (max y.2 (max z.2 u.2))) := by
  unfold hul4
  have a : min (min (min x.1 y.1) z.1) u.1 = min x.1 (min y.1 (min z.1 u.1)) := by omega
  have b : max (max (max x.2 y.2) z.2) u.2 = max x.2 (max y.2 (max z.2 u.2)) := by omega
  rw [a, b]
end Go.Proofs.YtmikjgbojknlnaaDoor
