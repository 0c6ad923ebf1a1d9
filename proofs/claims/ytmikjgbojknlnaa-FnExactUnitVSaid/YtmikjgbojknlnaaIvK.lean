/- Contracts of the conversions that the laws of chapter 4 use. Conditions: numbers are int64. -/
import Derived.Test.YtmikjgbojknlnaaIvA
import Derived.Test.YtmikjgbojknlnaaMinMax
import Derived.Deep.RegionHeld3
import Derived.Deep.DeepCutAuto
import Derived.Outline
namespace Go.Proofs.Ytmikjgbojknlnaa
open Go.ChangeShapes Go.WideShapes Go.ChangeAt Go.RowKit
set_option linter.unusedVariables false
set_option maxRecDepth 100000
set_option linter.unusedSimpArgs false
set_option maxHeartbeats 1000000

theorem toInterval_exact (h l : Int) (w : World) : Calls Try.prog 34 #[.agg #[.int .i64 h, .int .i64 l]] w fun e w' =>
    e = .returned (.agg #[.int .i64 h, .int .i64 l]) ∧ ((w.alloc (.cells #[.int .i64 h, .int .i64 l] 30)).alloc (.cells #[.int .i64 h, .int .i64 l] 31)).alloc (.cells #[.int .i64 h, .int .i64 l] 31) = w' := by
  go_enter Try.func34, Try.ntmps34
  go_wp2
  exact bodyPost_ret (v := .agg #[.int .i64 h, .int .i64 l]) (by simp [results, Try.results34, go_sem]) rfl ⟨rfl, rfl⟩
theorem toInterval_any (x : Iv) (w : World) : Calls Try.prog 34 #[.agg #[.int .i64 x.1, .int .i64 x.2]] w fun e w' =>
    e = .returned (.agg #[.int .i64 x.1, .int .i64 x.2]) ∧ Below w.heap.size w w' := by
  go_enter Try.func34, Try.ntmps34
  go_wp2
  exact bodyPost_ret (v := .agg #[.int .i64 x.1, .int .i64 x.2]) (by simp [results, Try.results34, go_sem]) rfl ⟨rfl, belB⟩
theorem eqInterval_same (h l : Int) (w : World) : Calls Try.prog 36 #[.agg #[.int .i64 h, .int .i64 l], .agg #[.int .i64 h, .int .i64 l]] w fun e w' =>
    e = .returned (.bool true) ∧ Below w.heap.size w w' := by
  go_enter Try.func36, Try.ntmps36
  go_wp2
  go_ret
  exact ⟨rfl, belB⟩
end Go.Proofs.Ytmikjgbojknlnaa
