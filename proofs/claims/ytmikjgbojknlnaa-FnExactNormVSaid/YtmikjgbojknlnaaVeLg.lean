/- The law of lengths of vectors. Conditions: numbers are int64. -/
import Derived.Test.YtmikjgbojknlnaaVeK
import Derived.Test.YtmikjgbojknlnaaVeU
import Derived.Test.YtmikjgbojknlnaaVeW
import Derived.Test.YtmikjgbojknlnaaLat
import Derived.Outline
namespace Go.Proofs.Ytmikjgbojknlnaa
open Go.ChangeShapes Go.WideShapes Go.ChangeAt Go.RowKit
set_option linter.unusedVariables false
set_option maxRecDepth 100000
set_option linter.unusedSimpArgs false
set_option maxHeartbeats 1000000
set_option maxHeartbeats 8000000 in
theorem law_NormV (x y z : Iv) (w : World) : Calls Try.prog 18 #[.agg #[.int .i64 x.1, .int .i64 x.2, .int .i64 y.1, .int .i64 y.2, .int .i64 z.1, .int .i64 z.2]] w fun e w' =>
    e = .returned (.bool true) ∧ Below w.heap.size w w' := by
  have T := Lib.hid (fun w => toVec_any x y z w)
  have SP := Lib.hid (fun w => sNormV_any x y z w)
  have IM := Lib.hid (fun w => NormV_any x y z w)
  have EQ := Lib.hid (fun w => eqInterval_same (nrmI x y z).1 (nrmI x y z).2 w)
  generalize nrmI x y z = n at *
  go_enter Try.func18, Try.ntmps18
  go_wp2_with fail
  refine (T.out _).mono ?_
  rintro e w1 ⟨rfl, hb1⟩
  have hs1 : _ ≤ w1.heap.size := hb1.size
  try simp at hs1
  go_wp2_with fail
  refine (SP.out _).mono ?_
  rintro e w2 ⟨rfl, hb2⟩
  have hs2 : _ ≤ w2.heap.size := hb2.size
  try simp at hs2
  have o_a20 : Own (w2) (w.heap.size) 0 (.int .i64 x.1) := ownS; have a20 := o_a20.1; have f_a20 := o_a20.2; have o_a21 : Own (w2) (w.heap.size) 1 (.int .i64 x.2) := ownS; have a21 := o_a21.1; have f_a21 := o_a21.2; have o_a22 : Own (w2) (w.heap.size) 2 (.int .i64 y.1) := ownS; have a22 := o_a22.1; have f_a22 := o_a22.2; have o_a23 : Own (w2) (w.heap.size) 3 (.int .i64 y.2) := ownS; have a23 := o_a23.1; have f_a23 := o_a23.2; have o_a24 : Own (w2) (w.heap.size) 4 (.int .i64 z.1) := ownS; have a24 := o_a24.1; have f_a24 := o_a24.2; have o_a25 : Own (w2) (w.heap.size) 5 (.int .i64 z.2) := ownS; have a25 := o_a25.1; have f_a25 := o_a25.2
  have la : w.heap.size < w2.heap.size := World.block_lt_of_cell? _ _ a20
  have na : ¬ w.heap.size = w2.heap.size := Nat.ne_of_lt la
  have ma : ¬ w2.heap.size = w.heap.size := Nat.ne_of_gt la
  go_wp2_with fail
  refine (T.out _).mono ?_
  rintro e w3 ⟨rfl, hb3⟩
  have hs3 : _ ≤ w3.heap.size := hb3.size
  try simp at hs3
  have o_g30 : Own (w3) (w2.heap.size) 0 (.int .i64 n.1) := ownS; have g30 := o_g30.1; have f_g30 := o_g30.2; have o_g31 : Own (w3) (w2.heap.size) 1 (.int .i64 n.2) := ownS; have g31 := o_g31.1; have f_g31 := o_g31.2
  go_wp2_with fail
  refine (IM.out _).mono ?_
  rintro e w4 ⟨rfl, hb4⟩
  have hs4 : _ ≤ w4.heap.size := hb4.size
  try simp at hs4
  have o_g40 : Own (w4) (w2.heap.size) 0 (.int .i64 n.1) := ownS; have g40 := o_g40.1; have f_g40 := o_g40.2; have o_g41 : Own (w4) (w2.heap.size) 1 (.int .i64 n.2) := ownS; have g41 := o_g41.1; have f_g41 := o_g41.2
  have lg : w2.heap.size < w4.heap.size := World.block_lt_of_cell? _ _ g40
  have lg1 : ¬ w2.heap.size = w4.heap.size := by omega
  have lg2 : ¬ w4.heap.size = w2.heap.size := by omega
  go_wp2_with fail
  refine (EQ.out _).mono ?_
  rintro e w5 ⟨rfl, hb5⟩
  have hs5 : _ ≤ w5.heap.size := hb5.size
  try simp at hs5
  go_wp2
  go_ret
  exact ⟨rfl, belS⟩
end Go.Proofs.Ytmikjgbojknlnaa
