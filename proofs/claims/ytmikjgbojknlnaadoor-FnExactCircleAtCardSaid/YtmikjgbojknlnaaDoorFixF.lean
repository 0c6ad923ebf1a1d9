/- Contracts of roots of fixes in the model, and the laws of chapter 3. Conditions: numbers are int64. -/
import Derived.Test.YtmikjgbojknlnaaDoorFixE
import Derived.Test.YtmikjgbojknlnaaDoorFixZc
import Derived.Outline
namespace Go.Proofs.YtmikjgbojknlnaaDoor
open Go.ChangeShapes Go.WideShapes Go.ChangeAt Go.RowKit
set_option linter.unusedVariables false
set_option maxRecDepth 100000
set_option linter.unusedSimpArgs false
set_option maxHeartbeats 1000000

theorem okR_yes {a : Int} (h : 0 ≤ a) (k : a ≤ 1152921504606846976) : okR a = true := decide_eq_true ⟨h, k⟩
theorem okR_no {a : Int} (h : a < 0 ∨ 1152921504606846976 < a) : okR a = false := decide_eq_false (by omega)
theorem rtD_fix {a : Int} (a1 : a ≤ 1152921504606846976) : InF (rtD a) := by have := rtD_in a1; unfold InF; omega
theorem rtU_fix {a : Int} (a1 : a ≤ 1152921504606846976) : InF (rtU a) := by have := rtU_in a1; unfold InF; omega
end Go.Proofs.YtmikjgbojknlnaaDoor
