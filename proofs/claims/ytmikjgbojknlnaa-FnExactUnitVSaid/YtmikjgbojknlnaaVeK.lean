/- Contracts of the conversions of vectors that the laws use. Conditions: numbers are int64. -/
import Derived.Test.YtmikjgbojknlnaaIvK
import Derived.Test.YtmikjgbojknlnaaNumP
import Derived.Test.YtmikjgbojknlnaaLat
import Derived.Deep.RegionHeld3
import Derived.Deep.DeepCutAuto
import Derived.Outline
namespace Go.Proofs.Ytmikjgbojknlnaa
open Go.ChangeShapes Go.WideShapes Go.ChangeAt Go.RowKit
set_option linter.unusedVariables false
set_option maxRecDepth 100000
set_option linter.unusedSimpArgs false
set_option maxHeartbeats 1000000
theorem toVec_any (x y z : Iv) (w : World) : Calls Try.prog 54 #[.agg #[.int .i64 x.1, .int .i64 x.2, .int .i64 y.1, .int .i64 y.2, .int .i64 z.1, .int .i64 z.2]] w fun e w' =>
    e = .returned (.agg #[.int .i64 x.1, .int .i64 x.2, .int .i64 y.1, .int .i64 y.2, .int .i64 z.1, .int .i64 z.2]) ∧ Below w.heap.size w w' := by
  have T0 := Lib.hid (fun w => toInterval_any x w)
  have T1 := Lib.hid (fun w => toInterval_any y w)
  have T2 := Lib.hid (fun w => toInterval_any z w)
  go_enter Try.func54, Try.ntmps54
  go_wp2_with fail
  refine (T0.out _).mono ?_
  rintro e w1 ⟨rfl, hb1⟩
  have hs1 : _ ≤ w1.heap.size := hb1.size
  try simp at hs1
  have o_a10 : Own (w1) (w.heap.size) 0 (.int .i64 x.1) := ownS; have a10 := o_a10.1; have f_a10 := o_a10.2; have o_a11 : Own (w1) (w.heap.size) 1 (.int .i64 x.2) := ownS; have a11 := o_a11.1; have f_a11 := o_a11.2; have o_a12 : Own (w1) (w.heap.size) 2 (.int .i64 y.1) := ownS; have a12 := o_a12.1; have f_a12 := o_a12.2; have o_a13 : Own (w1) (w.heap.size) 3 (.int .i64 y.2) := ownS; have a13 := o_a13.1; have f_a13 := o_a13.2; have o_a14 : Own (w1) (w.heap.size) 4 (.int .i64 z.1) := ownS; have a14 := o_a14.1; have f_a14 := o_a14.2; have o_a15 : Own (w1) (w.heap.size) 5 (.int .i64 z.2) := ownS; have a15 := o_a15.1; have f_a15 := o_a15.2
  have o_r10 : Own (w1) (w.heap.size + 1) 0 (.int .i64 0) := ownS; have r10 := o_r10.1; have f_r10 := o_r10.2; have o_r11 : Own (w1) (w.heap.size + 1) 1 (.int .i64 0) := ownS; have r11 := o_r11.1; have f_r11 := o_r11.2; have o_r12 : Own (w1) (w.heap.size + 1) 2 (.int .i64 0) := ownS; have r12 := o_r12.1; have f_r12 := o_r12.2; have o_r13 : Own (w1) (w.heap.size + 1) 3 (.int .i64 0) := ownS; have r13 := o_r13.1; have f_r13 := o_r13.2; have o_r14 : Own (w1) (w.heap.size + 1) 4 (.int .i64 0) := ownS; have r14 := o_r14.1; have f_r14 := o_r14.2; have o_r15 : Own (w1) (w.heap.size + 1) 5 (.int .i64 0) := ownS; have r15 := o_r15.1; have f_r15 := o_r15.2
  have o_o10 : Own (w1) (w.heap.size + 1 + 1) 0 (.int .i64 0) := ownS; have o10 := o_o10.1; have f_o10 := o_o10.2; have o_o11 : Own (w1) (w.heap.size + 1 + 1) 1 (.int .i64 0) := ownS; have o11 := o_o11.1; have f_o11 := o_o11.2; have o_o12 : Own (w1) (w.heap.size + 1 + 1) 2 (.int .i64 0) := ownS; have o12 := o_o12.1; have f_o12 := o_o12.2; have o_o13 : Own (w1) (w.heap.size + 1 + 1) 3 (.int .i64 0) := ownS; have o13 := o_o13.1; have f_o13 := o_o13.2; have o_o14 : Own (w1) (w.heap.size + 1 + 1) 4 (.int .i64 0) := ownS; have o14 := o_o14.1; have f_o14 := o_o14.2; have o_o15 : Own (w1) (w.heap.size + 1 + 1) 5 (.int .i64 0) := ownS; have o15 := o_o15.1; have f_o15 := o_o15.2
  go_wp2_with fail
  refine (T1.out _).mono ?_
  rintro e w2 ⟨rfl, hb2⟩
  have hs2 : _ ≤ w2.heap.size := hb2.size
  try simp at hs2
  have o_a20 : Own w2 (w.heap.size) 0 (.int .i64 x.1) := own_kept hb2 ((own_far (by dsimp only; omega) (own_far (by dsimp only; omega) o_a10)))
  have o_a21 : Own w2 (w.heap.size) 1 (.int .i64 x.2) := own_kept hb2 ((own_far (by dsimp only; omega) (own_far (by dsimp only; omega) o_a11)))
  have o_a22 : Own w2 (w.heap.size) 2 (.int .i64 y.1) := own_kept hb2 ((own_far (by dsimp only; omega) (own_far (by dsimp only; omega) o_a12)))
  have o_a23 : Own w2 (w.heap.size) 3 (.int .i64 y.2) := own_kept hb2 ((own_far (by dsimp only; omega) (own_far (by dsimp only; omega) o_a13)))
  have o_a24 : Own w2 (w.heap.size) 4 (.int .i64 z.1) := own_kept hb2 ((own_far (by dsimp only; omega) (own_far (by dsimp only; omega) o_a14)))
  have o_a25 : Own w2 (w.heap.size) 5 (.int .i64 z.2) := own_kept hb2 ((own_far (by dsimp only; omega) (own_far (by dsimp only; omega) o_a15)))
  have a20 := o_a20.1
  have a21 := o_a21.1
  have a22 := o_a22.1
  have a23 := o_a23.1
  have a24 := o_a24.1
  have a25 := o_a25.1
  have f_a20 := o_a20.2
  have f_a21 := o_a21.2
  have f_a22 := o_a22.2
  have f_a23 := o_a23.2
  have f_a24 := o_a24.2
  have f_a25 := o_a25.2
  have o_r20 : Own w2 (w.heap.size + 1) 0 (.int .i64 0) := own_kept hb2 ((own_far (by dsimp only; omega) (own_far (by dsimp only; omega) o_r10)))
  have o_r21 : Own w2 (w.heap.size + 1) 1 (.int .i64 0) := own_kept hb2 ((own_far (by dsimp only; omega) (own_far (by dsimp only; omega) o_r11)))
  have o_r22 : Own w2 (w.heap.size + 1) 2 (.int .i64 0) := own_kept hb2 ((own_far (by dsimp only; omega) (own_far (by dsimp only; omega) o_r12)))
  have o_r23 : Own w2 (w.heap.size + 1) 3 (.int .i64 0) := own_kept hb2 ((own_far (by dsimp only; omega) (own_far (by dsimp only; omega) o_r13)))
  have o_r24 : Own w2 (w.heap.size + 1) 4 (.int .i64 0) := own_kept hb2 ((own_far (by dsimp only; omega) (own_far (by dsimp only; omega) o_r14)))
  have o_r25 : Own w2 (w.heap.size + 1) 5 (.int .i64 0) := own_kept hb2 ((own_far (by dsimp only; omega) (own_far (by dsimp only; omega) o_r15)))
  have r20 := o_r20.1
  have r21 := o_r21.1
  have r22 := o_r22.1
  have r23 := o_r23.1
  have r24 := o_r24.1
  have r25 := o_r25.1
  have f_r20 := o_r20.2
  have f_r21 := o_r21.2
  have f_r22 := o_r22.2
  have f_r23 := o_r23.2
  have f_r24 := o_r24.2
  have f_r25 := o_r25.2
  have o_o20 : Own w2 (w.heap.size + 1 + 1) 0 (.int .i64 x.1) := own_kept hb2 (own_next (by decide) (own_put o_o10))
  have o_o21 : Own w2 (w.heap.size + 1 + 1) 1 (.int .i64 x.2) := own_kept hb2 (own_put (own_next (by decide) o_o11))
  have o_o22 : Own w2 (w.heap.size + 1 + 1) 2 (.int .i64 0) := own_kept hb2 (own_next (by decide) (own_next (by decide) o_o12))
  have o_o23 : Own w2 (w.heap.size + 1 + 1) 3 (.int .i64 0) := own_kept hb2 (own_next (by decide) (own_next (by decide) o_o13))
  have o_o24 : Own w2 (w.heap.size + 1 + 1) 4 (.int .i64 0) := own_kept hb2 (own_next (by decide) (own_next (by decide) o_o14))
  have o_o25 : Own w2 (w.heap.size + 1 + 1) 5 (.int .i64 0) := own_kept hb2 (own_next (by decide) (own_next (by decide) o_o15))
  have o20 := o_o20.1
  have o21 := o_o21.1
  have o22 := o_o22.1
  have o23 := o_o23.1
  have o24 := o_o24.1
  have o25 := o_o25.1
  have f_o20 := o_o20.2
  have f_o21 := o_o21.2
  have f_o22 := o_o22.2
  have f_o23 := o_o23.2
  have f_o24 := o_o24.2
  have f_o25 := o_o25.2
  go_wp2_with fail
  refine (T2.out _).mono ?_
  rintro e w3 ⟨rfl, hb3⟩
  have hs3 : _ ≤ w3.heap.size := hb3.size
  try simp at hs3
  have o_r30 : Own w3 (w.heap.size + 1) 0 (.int .i64 0) := own_kept hb3 ((own_far (by dsimp only; omega) (own_far (by dsimp only; omega) o_r20)))
  have o_r31 : Own w3 (w.heap.size + 1) 1 (.int .i64 0) := own_kept hb3 ((own_far (by dsimp only; omega) (own_far (by dsimp only; omega) o_r21)))
  have o_r32 : Own w3 (w.heap.size + 1) 2 (.int .i64 0) := own_kept hb3 ((own_far (by dsimp only; omega) (own_far (by dsimp only; omega) o_r22)))
  have o_r33 : Own w3 (w.heap.size + 1) 3 (.int .i64 0) := own_kept hb3 ((own_far (by dsimp only; omega) (own_far (by dsimp only; omega) o_r23)))
  have o_r34 : Own w3 (w.heap.size + 1) 4 (.int .i64 0) := own_kept hb3 ((own_far (by dsimp only; omega) (own_far (by dsimp only; omega) o_r24)))
  have o_r35 : Own w3 (w.heap.size + 1) 5 (.int .i64 0) := own_kept hb3 ((own_far (by dsimp only; omega) (own_far (by dsimp only; omega) o_r25)))
  have r30 := o_r30.1
  have r31 := o_r31.1
  have r32 := o_r32.1
  have r33 := o_r33.1
  have r34 := o_r34.1
  have r35 := o_r35.1
  have f_r30 := o_r30.2
  have f_r31 := o_r31.2
  have f_r32 := o_r32.2
  have f_r33 := o_r33.2
  have f_r34 := o_r34.2
  have f_r35 := o_r35.2
  have o_o30 : Own w3 (w.heap.size + 1 + 1) 0 (.int .i64 x.1) := own_kept hb3 (own_next (by decide) (own_next (by decide) o_o20))
  have o_o31 : Own w3 (w.heap.size + 1 + 1) 1 (.int .i64 x.2) := own_kept hb3 (own_next (by decide) (own_next (by decide) o_o21))
  have o_o32 : Own w3 (w.heap.size + 1 + 1) 2 (.int .i64 y.1) := own_kept hb3 (own_next (by decide) (own_put o_o22))
  have o_o33 : Own w3 (w.heap.size + 1 + 1) 3 (.int .i64 y.2) := own_kept hb3 (own_put (own_next (by decide) o_o23))
  have o_o34 : Own w3 (w.heap.size + 1 + 1) 4 (.int .i64 0) := own_kept hb3 (own_next (by decide) (own_next (by decide) o_o24))
  have o_o35 : Own w3 (w.heap.size + 1 + 1) 5 (.int .i64 0) := own_kept hb3 (own_next (by decide) (own_next (by decide) o_o25))
  have o30 := o_o30.1
  have o31 := o_o31.1
  have o32 := o_o32.1
  have o33 := o_o33.1
  have o34 := o_o34.1
  have o35 := o_o35.1
  have f_o30 := o_o30.2
  have f_o31 := o_o31.2
  have f_o32 := o_o32.2
  have f_o33 := o_o33.2
  have f_o34 := o_o34.2
  have f_o35 := o_o35.2
  go_wp2
  exact bodyPost_ret (v := .agg #[.int .i64 x.1, .int .i64 x.2, .int .i64 y.1, .int .i64 y.2, .int .i64 z.1, .int .i64 z.2]) (by simp [results, Try.results54, go_sem, r30, o30, r31, o31, r32, o32, r33, o33, r34, o34, r35, o35]) rfl ⟨rfl, belS⟩
theorem eqVec_same (x y z : Iv) (w : World) : Calls Try.prog 58 #[.agg #[.int .i64 x.1, .int .i64 x.2, .int .i64 y.1, .int .i64 y.2, .int .i64 z.1, .int .i64 z.2], .agg #[.int .i64 x.1, .int .i64 x.2, .int .i64 y.1, .int .i64 y.2, .int .i64 z.1, .int .i64 z.2]] w fun e w' =>
    e = .returned (.bool true) ∧ Below w.heap.size w w' := by
  have T0 := Lib.hid (fun w => eqInterval_same x.1 x.2 w)
  have T1 := Lib.hid (fun w => eqInterval_same y.1 y.2 w)
  have T2 := Lib.hid (fun w => eqInterval_same z.1 z.2 w)
  go_enter Try.func58, Try.ntmps58
  go_wp2_with fail
  refine (T0.out _).mono ?_
  rintro e w1 ⟨rfl, hb1⟩
  have hs1 : _ ≤ w1.heap.size := hb1.size
  try simp at hs1
  have o_a10 : Own (w1) (w.heap.size) 0 (.int .i64 x.1) := ownS; have a10 := o_a10.1; have f_a10 := o_a10.2; have o_a11 : Own (w1) (w.heap.size) 1 (.int .i64 x.2) := ownS; have a11 := o_a11.1; have f_a11 := o_a11.2; have o_a12 : Own (w1) (w.heap.size) 2 (.int .i64 y.1) := ownS; have a12 := o_a12.1; have f_a12 := o_a12.2; have o_a13 : Own (w1) (w.heap.size) 3 (.int .i64 y.2) := ownS; have a13 := o_a13.1; have f_a13 := o_a13.2; have o_a14 : Own (w1) (w.heap.size) 4 (.int .i64 z.1) := ownS; have a14 := o_a14.1; have f_a14 := o_a14.2; have o_a15 : Own (w1) (w.heap.size) 5 (.int .i64 z.2) := ownS; have a15 := o_a15.1; have f_a15 := o_a15.2
  have o_b10 : Own (w1) (w.heap.size + 1) 0 (.int .i64 x.1) := ownS; have b10 := o_b10.1; have f_b10 := o_b10.2; have o_b11 : Own (w1) (w.heap.size + 1) 1 (.int .i64 x.2) := ownS; have b11 := o_b11.1; have f_b11 := o_b11.2; have o_b12 : Own (w1) (w.heap.size + 1) 2 (.int .i64 y.1) := ownS; have b12 := o_b12.1; have f_b12 := o_b12.2; have o_b13 : Own (w1) (w.heap.size + 1) 3 (.int .i64 y.2) := ownS; have b13 := o_b13.1; have f_b13 := o_b13.2; have o_b14 : Own (w1) (w.heap.size + 1) 4 (.int .i64 z.1) := ownS; have b14 := o_b14.1; have f_b14 := o_b14.2; have o_b15 : Own (w1) (w.heap.size + 1) 5 (.int .i64 z.2) := ownS; have b15 := o_b15.1; have f_b15 := o_b15.2
  go_wp2_with fail
  refine (T1.out _).mono ?_
  rintro e w2 ⟨rfl, hb2⟩
  have hs2 : _ ≤ w2.heap.size := hb2.size
  try simp at hs2
  have o_a20 : Own (w2) (w.heap.size) 0 (.int .i64 x.1) := ownS; have a20 := o_a20.1; have f_a20 := o_a20.2; have o_a21 : Own (w2) (w.heap.size) 1 (.int .i64 x.2) := ownS; have a21 := o_a21.1; have f_a21 := o_a21.2; have o_a22 : Own (w2) (w.heap.size) 2 (.int .i64 y.1) := ownS; have a22 := o_a22.1; have f_a22 := o_a22.2; have o_a23 : Own (w2) (w.heap.size) 3 (.int .i64 y.2) := ownS; have a23 := o_a23.1; have f_a23 := o_a23.2; have o_a24 : Own (w2) (w.heap.size) 4 (.int .i64 z.1) := ownS; have a24 := o_a24.1; have f_a24 := o_a24.2; have o_a25 : Own (w2) (w.heap.size) 5 (.int .i64 z.2) := ownS; have a25 := o_a25.1; have f_a25 := o_a25.2
  have o_b20 : Own (w2) (w.heap.size + 1) 0 (.int .i64 x.1) := ownS; have b20 := o_b20.1; have f_b20 := o_b20.2; have o_b21 : Own (w2) (w.heap.size + 1) 1 (.int .i64 x.2) := ownS; have b21 := o_b21.1; have f_b21 := o_b21.2; have o_b22 : Own (w2) (w.heap.size + 1) 2 (.int .i64 y.1) := ownS; have b22 := o_b22.1; have f_b22 := o_b22.2; have o_b23 : Own (w2) (w.heap.size + 1) 3 (.int .i64 y.2) := ownS; have b23 := o_b23.1; have f_b23 := o_b23.2; have o_b24 : Own (w2) (w.heap.size + 1) 4 (.int .i64 z.1) := ownS; have b24 := o_b24.1; have f_b24 := o_b24.2; have o_b25 : Own (w2) (w.heap.size + 1) 5 (.int .i64 z.2) := ownS; have b25 := o_b25.1; have f_b25 := o_b25.2
  go_wp2_with fail
  refine (T2.out _).mono ?_
  rintro e w3 ⟨rfl, hb3⟩
  have hs3 : _ ≤ w3.heap.size := hb3.size
  try simp at hs3
  go_wp2
  go_ret
  exact ⟨rfl, belS⟩
end Go.Proofs.Ytmikjgbojknlnaa
