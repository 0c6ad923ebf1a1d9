/- Contracts of the conversions that the laws of chapter 4 use. Conditions: numbers are int64. -/
import Derived.Test.YtpjhoelfhmbpdaaDoorIvA
import Derived.Test.YtpjhoelfhmbpdaaDoorMinMax
import Derived.Deep.RegionHeld3
import Derived.Deep.DeepCutAuto
import Derived.Outline
namespace Go.Proofs.YtpjhoelfhmbpdaaDoor
open Go.ChangeShapes Go.WideShapes Go.ChangeAt Go.RowKit
set_option linter.unusedVariables false
set_option maxRecDepth 100000
set_option linter.unusedSimpArgs false
set_option maxHeartbeats 1000000

theorem toInterval_exact (h l : Int) (w : World) : Calls Tryd.prog 8 #[.agg #[.int .i64 h, .int .i64 l]] w fun e w' =>
    e = .returned (.agg #[.int .i64 h, .int .i64 l]) ∧ ((w.alloc (.cells #[.int .i64 h, .int .i64 l] 23)).alloc (.cells #[.int .i64 h, .int .i64 l] 24)).alloc (.cells #[.int .i64 h, .int .i64 l] 24) = w' := by
  go_enter Tryd.func8, Tryd.ntmps8
  go_wp2
  exact bodyPost_ret (v := .agg #[.int .i64 h, .int .i64 l]) (by simp [results, Tryd.results8, go_sem]) rfl ⟨rfl, rfl⟩
theorem toInterval_any (x : Iv) (w : World) : Calls Tryd.prog 8 #[.agg #[.int .i64 x.1, .int .i64 x.2]] w fun e w' =>
    e = .returned (.agg #[.int .i64 x.1, .int .i64 x.2]) ∧ Below w.heap.size w w' := by
  go_enter Tryd.func8, Tryd.ntmps8
  go_wp2
  exact bodyPost_ret (v := .agg #[.int .i64 x.1, .int .i64 x.2]) (by simp [results, Tryd.results8, go_sem]) rfl ⟨rfl, (by repeat (first | exact Below.refl _ _ | refine Below.drew ?_ | refine Below.setCell ?_ (by first | omega | (simp; done) | (simp; omega)) _ | refine Below.alloc ?_ (by first | omega | (simp; done) | (simp; omega)) _ | refine Below.trans ?_ (Below.mono (by assumption) (by first | omega | (simp; done) | (simp; omega)))))⟩
theorem eqInterval_same (h l : Int) (w : World) : Calls Tryd.prog 10 #[.agg #[.int .i64 h, .int .i64 l], .agg #[.int .i64 h, .int .i64 l]] w fun e w' =>
    e = .returned (.bool true) ∧ Below w.heap.size w w' := by
  go_enter Tryd.func10, Tryd.ntmps10
  go_wp2
  go_ret
  exact ⟨rfl, (by repeat (first | exact Below.refl _ _ | refine Below.drew ?_ | refine Below.setCell ?_ (by first | omega | (simp; done) | (simp; omega)) _ | refine Below.alloc ?_ (by first | omega | (simp; done) | (simp; omega)) _ | refine Below.trans ?_ (Below.mono (by assumption) (by first | omega | (simp; done) | (simp; omega)))))⟩
end Go.Proofs.YtpjhoelfhmbpdaaDoor
