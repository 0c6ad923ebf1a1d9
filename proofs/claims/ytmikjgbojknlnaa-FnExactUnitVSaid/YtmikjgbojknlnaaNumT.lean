/- Plain arithmetic of the series of sines and cosines. Conditions: as each lemma says. -/
import Derived.Test.YtmikjgbojknlnaaNumR
namespace Go.Proofs.Ytmikjgbojknlnaa
open Go.RowKit
set_option linter.unusedVariables false
set_option maxRecDepth 100000
set_option linter.unusedSimpArgs false
set_option maxHeartbeats 1000000

/-- What a series is after some of its eight steps, from within. -/
def serF (c : Int) (j : Nat) : Int := 2 * (8 - (j : Int)) + c
def serI (y : Iv) (c : Int) : Nat → Iv
  | 0 => intI 1
  | j + 1 => subI (intI 1) (mulI (divI y (intI (serF c j * (serF c j + 1)))) (serI y c j))
theorem serI_res (y : Iv) (c : Int) (j : Nat) : Res (serI y c j) := by cases j; exact int_res _; exact sub_res _ _
def rng : Iv := (-4294967296, 4294967296)
def tin : Iv := (-1, 1)
def sinS (x : Iv) : Iv := if insI x rng = true then addI (mulI x (serI (sqrI x) 0 8)) tin else whl
def cosS (x : Iv) : Iv := if insI x rng = true then addI (serI (sqrI x) (-1) 8) tin else whl
theorem sinS_res (x : Iv) : Res (sinS x) := by unfold sinS; split; exact add_res _ _; exact res_whl
theorem cosS_res (x : Iv) : Res (cosS x) := by unfold cosS; split; exact add_res _ _; exact res_whl
end Go.Proofs.Ytmikjgbojknlnaa
