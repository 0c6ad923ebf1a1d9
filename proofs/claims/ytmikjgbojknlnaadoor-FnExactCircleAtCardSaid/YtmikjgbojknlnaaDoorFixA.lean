/- Contracts of the fixes' own tests and of exact quotients, rounded down and up. Conditions: numbers are int64. -/
import Derived.Test.YtmikjgbojknlnaaDoorNumZ
import Derived.Test.YtmikjgbojknlnaaDoorWideZm
import Derived.Test.YtmikjgbojknlnaaDoorWideZp
import Derived.Test.YtmikjgbojknlnaaDoorWideZe
namespace Go.Proofs.YtmikjgbojknlnaaDoor
open Go.ChangeShapes Go.WideShapes Go.ChangeAt Go.RowKit
set_option linter.unusedVariables false
set_option maxRecDepth 100000
set_option linter.unusedSimpArgs false
set_option maxHeartbeats 1000000

theorem ValidFix_any (n : Int) (w : World) : Calls Tryd.prog 24 #[.int .i64 n] w fun e w' => e = .returned (.bool (okF n)) ∧ w = w' := by
  by_cases a : -1152921504606846976 ≤ n
  · by_cases b : n ≤ 1152921504606846976
    · have E := Lib.hid (okF_yes ⟨a, b⟩)
      have b0 : decide (n ≤ 1152921504606846976) = true := decide_eq_true b
      go_enter Tryd.func24, Tryd.ntmps24
      go_wp2
      go_ret
      exact ⟨(by first | (rw [E.out]; done) | (rw [E.out]; rfl) | (simp [E.out]; done)), rfl⟩
    · have E := Lib.hid (okF_no (fun h => b h.2))
      have b0 : decide (n ≤ 1152921504606846976) = false := decide_eq_false b
      go_enter Tryd.func24, Tryd.ntmps24
      go_wp2
      go_ret
      exact ⟨(by first | (rw [E.out]; done) | (rw [E.out]; rfl) | (simp [E.out]; done)), rfl⟩
  · have E := Lib.hid (okF_no (fun h => a h.1))
    go_enter Tryd.func24, Tryd.ntmps24
    go_wp2
    go_ret
    exact ⟨(by first | (rw [E.out]; done) | (rw [E.out]; rfl) | (simp [E.out]; done)), rfl⟩
end Go.Proofs.YtmikjgbojknlnaaDoor
