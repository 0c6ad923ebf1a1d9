/- Contracts of the conversions that the laws of chapter 4 use. Conditions: numbers are int64. -/
import Derived.Test.YtmikjgbojknlnaaDoorIvA
import Derived.Test.YtmikjgbojknlnaaDoorMinMax
import Derived.Deep.RegionHeld3
import Derived.Deep.DeepCutAuto
import Derived.Outline
namespace Go.Proofs.YtmikjgbojknlnaaDoor
open Go.ChangeShapes Go.WideShapes Go.ChangeAt Go.RowKit
set_option linter.unusedVariables false
set_option maxRecDepth 100000
set_option linter.unusedSimpArgs false
set_option maxHeartbeats 1000000

theorem eqInterval_same (h l : Int) (w : World) : Calls Tryd.prog 6 #[.agg #[.int .i64 h, .int .i64 l], .agg #[.int .i64 h, .int .i64 l]] w fun e w' =>
    e = .returned (.bool true) ∧ Below w.heap.size w w' := by
  go_enter Tryd.func6, Tryd.ntmps6
  go_wp2
  go_ret
  exact ⟨rfl, belB⟩
end Go.Proofs.YtmikjgbojknlnaaDoor
