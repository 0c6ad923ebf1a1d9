/- The program's two intervals: what a call keeps; own cells behind stores; small contracts. Conditions: as each lemma says. -/
import Derived.Test.YtmikjgbojknlnaaAnyS
import Derived.Test.YtmikjgbojknlnaaNumX
import Derived.Test.YtmikjgbojknlnaaIvA
import Derived.Test.YtmikjgbojknlnaaIvV
import Derived.Deep.RegionHeld3
import Derived.Outline
namespace Go.Proofs.Ytmikjgbojknlnaa
open Go.ChangeShapes Go.WideShapes Go.ChangeAt Go.RowKit
set_option linter.unusedVariables false
set_option maxRecDepth 100000
set_option linter.unusedSimpArgs false
set_option maxHeartbeats 1000000
theorem single_any (n : Int) (w : World) : Calls Try.prog 162 #[.int .i64 n] w fun e w' =>
    e = .returned (.agg #[.int .i64 n, .int .i64 n]) ∧ Below w.heap.size w w' := by
  go_enter Try.func162, Try.ntmps162
  go_wp2
  exact bodyPost_ret (v := .agg #[.int .i64 n, .int .i64 n]) (by simp [results, Try.results162, go_sem]) rfl ⟨rfl, belB⟩
end Go.Proofs.Ytmikjgbojknlnaa
