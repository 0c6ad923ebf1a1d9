/- Contracts of sums, differences and the like in the program. Conditions: numbers are int64. -/
import Derived.Test.YtmikjgbojknlnaaDoorIvC
import Derived.Deep.RegionHeld3
import Derived.Outline
namespace Go.Proofs.YtmikjgbojknlnaaDoor
open Go.ChangeShapes Go.WideShapes Go.ChangeAt Go.RowKit
set_option linter.unusedVariables false
set_option maxRecDepth 100000
set_option linter.unusedSimpArgs false
set_option maxHeartbeats 1000000

theorem wrapS {v : Int} (h : In64 v) : IntKind.i64.wrap v = v := by rw [IntKind.wrap_i64]; unfold In64 at h; omega
theorem both_bnd {x y : Iv} (h : (bnd x && bnd y) = true) : Bnd x ∧ Bnd y := by
  simp only [Bool.and_eq_true] at h; exact ⟨of_decide_eq_true h.1, of_decide_eq_true h.2⟩
theorem add_wrap (x y : Iv) : kn (bnd x && bnd y) (IntKind.i64.wrap (x.1 + y.1), IntKind.i64.wrap (x.2 + y.2)) = addI x y := by
  unfold addI
  cases h : (bnd x && bnd y)
  · rw [kn_no rfl, kn_no rfl]
  · obtain ⟨a, b⟩ := both_bnd h
    unfold Bnd at a b
    rw [wrapS (by unfold In64; omega), wrapS (by unfold In64; omega)]
theorem sub_wrap (x y : Iv) : kn (bnd x && bnd y) (IntKind.i64.wrap (x.1 - y.2), IntKind.i64.wrap (x.2 - y.1)) = subI x y := by
  unfold subI
  cases h : (bnd x && bnd y)
  · rw [kn_no rfl, kn_no rfl]
  · obtain ⟨a, b⟩ := both_bnd h
    unfold Bnd at a b
    rw [wrapS (by unfold In64; omega), wrapS (by unfold In64; omega)]
theorem neg_wrap (x : Iv) : kn (bnd x) (IntKind.i64.wrap (-x.2), IntKind.i64.wrap (-x.1)) = negI x := by
  unfold negI
  cases h : bnd x
  · rw [kn_no rfl, kn_no rfl]
  · have a := of_decide_eq_true h
    unfold Bnd at a
    rw [wrapS (by unfold In64; omega), wrapS (by unfold In64; omega)]
theorem half_wrap (x : Iv) : kn (bnd x) (x.1 / 2, IntKind.i64.wrap (x.2 + 1) / 2) = halfI x := by
  unfold halfI
  cases h : bnd x
  · rw [kn_no rfl, kn_no rfl]
  · have a := of_decide_eq_true h
    unfold Bnd at a
    rw [wrapS (by unfold In64; omega)]
attribute [local go_sem ↓] run_min_ends run_max_ends
end Go.Proofs.YtmikjgbojknlnaaDoor
