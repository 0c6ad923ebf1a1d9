/- The law of directions of vectors. Conditions: numbers are int64. -/
import Derived.Test.YtmikjgbojknlnaaVeK
import Derived.Test.YtmikjgbojknlnaaVeX
import Derived.Test.YtmikjgbojknlnaaLat
import Derived.Outline
namespace Go.Proofs.Ytmikjgbojknlnaa
open Go.ChangeShapes Go.WideShapes Go.ChangeAt Go.RowKit
set_option linter.unusedVariables false
set_option maxRecDepth 100000
set_option linter.unusedSimpArgs false
set_option maxHeartbeats 1000000
set_option maxHeartbeats 8000000 in
theorem law_UnitV (x y z : Iv) (ox : Ok x) (oy : Ok y) (oz : Ok z) (w : World) : Calls Try.prog 19 #[.agg #[.int .i64 x.1, .int .i64 x.2, .int .i64 y.1, .int .i64 y.2, .int .i64 z.1, .int .i64 z.2]] w fun e w' =>
    e = .returned (.bool true) ∧ Below w.heap.size w w' := by
  have T := Lib.hid (fun w => toVec_any x y z w)
  have SP := Lib.hid (fun w => sUnitV_any x y z w)
  have IM := Lib.hid (fun w => UnitV_any x y z ox oy oz w)
  have EQ := Lib.hid (fun w => eqVec_same (divI x (nrmI x y z)) (divI y (nrmI x y z)) (divI z (nrmI x y z)) w)
  clear ox oy oz
  generalize nrmI x y z = n at *
  generalize divI x n = d0 at *
  generalize divI y n = d1 at *
  generalize divI z n = d2 at *
  go_enter Try.func19, Try.ntmps19
  go_wp2_with fail
  refine (T.out _).mono ?_
  rintro e w1 ⟨rfl, hb1⟩
  have hs1 : _ ≤ w1.heap.size := hb1.size
  try simp at hs1
  go_wp2_with fail
  refine (SP.out _).mono ?_
  rintro e w2 ⟨rfl, hb2⟩
  have hs2 : _ ≤ w2.heap.size := hb2.size
  try simp at hs2
  have o_a20 : Own (w2) (w.heap.size) 0 (.int .i64 x.1) := ownS; have a20 := o_a20.1; have f_a20 := o_a20.2; have o_a21 : Own (w2) (w.heap.size) 1 (.int .i64 x.2) := ownS; have a21 := o_a21.1; have f_a21 := o_a21.2; have o_a22 : Own (w2) (w.heap.size) 2 (.int .i64 y.1) := ownS; have a22 := o_a22.1; have f_a22 := o_a22.2; have o_a23 : Own (w2) (w.heap.size) 3 (.int .i64 y.2) := ownS; have a23 := o_a23.1; have f_a23 := o_a23.2; have o_a24 : Own (w2) (w.heap.size) 4 (.int .i64 z.1) := ownS; have a24 := o_a24.1; have f_a24 := o_a24.2; have o_a25 : Own (w2) (w.heap.size) 5 (.int .i64 z.2) := ownS; have a25 := o_a25.1; have f_a25 := o_a25.2
  have la : w.heap.size < w2.heap.size := World.block_lt_of_cell? _ _ a20
  have na : ¬ w.heap.size = w2.heap.size := Nat.ne_of_lt la
  have ma : ¬ w2.heap.size = w.heap.size := Nat.ne_of_gt la
  go_wp2_with fail
  refine (T.out _).mono ?_
  rintro e w3 ⟨rfl, hb3⟩
  have hs3 : _ ≤ w3.heap.size := hb3.size
  try simp at hs3
  have o_g30 : Own (w3) (w2.heap.size) 0 (.int .i64 d0.1) := ownS; have g30 := o_g30.1; have f_g30 := o_g30.2; have o_g31 : Own (w3) (w2.heap.size) 1 (.int .i64 d0.2) := ownS; have g31 := o_g31.1; have f_g31 := o_g31.2; have o_g32 : Own (w3) (w2.heap.size) 2 (.int .i64 d1.1) := ownS; have g32 := o_g32.1; have f_g32 := o_g32.2; have o_g33 : Own (w3) (w2.heap.size) 3 (.int .i64 d1.2) := ownS; have g33 := o_g33.1; have f_g33 := o_g33.2; have o_g34 : Own (w3) (w2.heap.size) 4 (.int .i64 d2.1) := ownS; have g34 := o_g34.1; have f_g34 := o_g34.2; have o_g35 : Own (w3) (w2.heap.size) 5 (.int .i64 d2.2) := ownS; have g35 := o_g35.1; have f_g35 := o_g35.2
  go_wp2_with fail
  refine (IM.out _).mono ?_
  rintro e w4 ⟨rfl, hb4⟩
  have hs4 : _ ≤ w4.heap.size := hb4.size
  try simp at hs4
  have o_g40 : Own (w4) (w2.heap.size) 0 (.int .i64 d0.1) := ownS; have g40 := o_g40.1; have f_g40 := o_g40.2; have o_g41 : Own (w4) (w2.heap.size) 1 (.int .i64 d0.2) := ownS; have g41 := o_g41.1; have f_g41 := o_g41.2; have o_g42 : Own (w4) (w2.heap.size) 2 (.int .i64 d1.1) := ownS; have g42 := o_g42.1; have f_g42 := o_g42.2; have o_g43 : Own (w4) (w2.heap.size) 3 (.int .i64 d1.2) := ownS; have g43 := o_g43.1; have f_g43 := o_g43.2; have o_g44 : Own (w4) (w2.heap.size) 4 (.int .i64 d2.1) := ownS; have g44 := o_g44.1; have f_g44 := o_g44.2; have o_g45 : Own (w4) (w2.heap.size) 5 (.int .i64 d2.2) := ownS; have g45 := o_g45.1; have f_g45 := o_g45.2
  have lg : w2.heap.size < w4.heap.size := World.block_lt_of_cell? _ _ g40
  have lg1 : ¬ w2.heap.size = w4.heap.size := by omega
  have lg2 : ¬ w4.heap.size = w2.heap.size := by omega
  go_wp2_with fail
  refine (EQ.out _).mono ?_
  rintro e w5 ⟨rfl, hb5⟩
  have hs5 : _ ≤ w5.heap.size := hb5.size
  try simp at hs5
  go_wp2
  go_ret
  exact ⟨rfl, belS⟩
end Go.Proofs.Ytmikjgbojknlnaa
