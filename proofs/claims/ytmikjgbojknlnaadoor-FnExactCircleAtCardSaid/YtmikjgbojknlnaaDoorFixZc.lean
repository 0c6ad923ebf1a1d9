/- Contracts of products and quotients of fixes in the program. Conditions: numbers are int64. Contracts of roots of fixes in the program. Conditions: numbers are int64. -/
import Derived.Test.YtmikjgbojknlnaaDoorFixB
namespace Go.Proofs.YtmikjgbojknlnaaDoor
open Go.ChangeShapes Go.WideShapes Go.ChangeAt Go.RowKit
set_option linter.unusedVariables false
set_option maxRecDepth 100000
set_option linter.unusedSimpArgs false
set_option maxHeartbeats 1000000

end Go.Proofs.YtmikjgbojknlnaaDoor
namespace Go.Proofs.YtmikjgbojknlnaaDoor
open Go.ChangeShapes Go.WideShapes Go.ChangeAt Go.RowKit
set_option linter.unusedVariables false
set_option maxRecDepth 100000
set_option linter.unusedSimpArgs false
set_option maxHeartbeats 1000000

theorem rt_res {a : Int} (a1 : a ≤ 1152921504606846976) : resI (decide (0 ≤ a)) (rtD a) = resI (okR a) (rtD a) ∧ resB (decide (0 ≤ a)) (rtD a) = resB (okR a) (rtD a) ∧
    resI (decide (0 ≤ a)) (rtU a) = resI (okR a) (rtU a) ∧ resB (decide (0 ≤ a)) (rtU a) = resB (okR a) (rtU a) := by
  have e : decide (0 ≤ a) = okR a := by unfold okR; rw [Bool.eq_iff_iff]; simp; omega
  rw [e]; exact ⟨rfl, rfl, rfl, rfl⟩
theorem rt_none {a : Int} (x : Int) (h : ¬ InF a) : okR a = false := decide_eq_false (fun k => h ⟨by omega, k.2⟩)
end Go.Proofs.YtmikjgbojknlnaaDoor
