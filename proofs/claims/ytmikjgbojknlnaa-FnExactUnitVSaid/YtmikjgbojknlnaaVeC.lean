/- Contracts of sums, differences, multiples and quotients of vectors in the program. Conditions: numbers are int64. -/
import Derived.Test.YtmikjgbojknlnaaLat
import Derived.Test.YtmikjgbojknlnaaVeB
import Derived.Test.YtmikjgbojknlnaaIvD
import Derived.Test.YtmikjgbojknlnaaIvF
import Derived.Test.YtmikjgbojknlnaaNumP
import Derived.Deep.RegionHeld3
import Derived.Deep.DeepCutAuto
import Derived.Outline
namespace Go.Proofs.Ytmikjgbojknlnaa
open Go.ChangeShapes Go.WideShapes Go.ChangeAt Go.RowKit
set_option linter.unusedVariables false
set_option maxRecDepth 100000
set_option linter.unusedSimpArgs false
set_option maxHeartbeats 1000000
theorem AddV_any (x y z x' y' z' : Iv) (ox : Ok x) (oy : Ok y) (oz : Ok z) (ox' : Ok x') (oy' : Ok y') (oz' : Ok z') (w : World) : Calls Try.prog 57 #[.agg #[.int .i64 x.1, .int .i64 x.2, .int .i64 y.1, .int .i64 y.2, .int .i64 z.1, .int .i64 z.2], .agg #[.int .i64 x'.1, .int .i64 x'.2, .int .i64 y'.1, .int .i64 y'.2, .int .i64 z'.1, .int .i64 z'.2]] w fun e w' =>
    e = .returned (.agg #[.int .i64 (addI x x').1, .int .i64 (addI x x').2, .int .i64 (addI y y').1, .int .i64 (addI y y').2, .int .i64 (addI z z').1, .int .i64 (addI z z').2]) ∧ Below w.heap.size w w' := by
  have C := Lib.hid (fun w => combined_any 96 (fun _ _ => by kernel_rfl) x y z x' y' z' (addI x x') (addI y y') (addI z z') (fun w => AddI_any x x' w) (fun w => AddI_any y y' w) (fun w => AddI_any z z' w) w)
  clear ox oy oz ox' oy' oz'
  go_enter Try.func57, Try.ntmps57
  go_wp2_with fail
  refine (C.out _).mono ?_
  rintro e w1 ⟨rfl, hb1⟩
  have hs1 : _ ≤ w1.heap.size := hb1.size
  try simp at hs1
  go_wp2_with fail
  refine (vec_any _ _ _ _).mono ?_
  rintro e w2 ⟨rfl, hb2⟩
  have hs2 : _ ≤ w2.heap.size := hb2.size
  try simp at hs2
  have o_j0 : Own (w2) (w.heap.size + 1 + 1) 0 (.int .i64 0) := ownJ; obtain ⟨j0, f_j0⟩ := o_j0; have o_j1 : Own (w2) (w.heap.size + 1 + 1) 1 (.int .i64 0) := ownJ; obtain ⟨j1, f_j1⟩ := o_j1; have o_j2 : Own (w2) (w.heap.size + 1 + 1) 2 (.int .i64 0) := ownJ; obtain ⟨j2, f_j2⟩ := o_j2; have o_j3 : Own (w2) (w.heap.size + 1 + 1) 3 (.int .i64 0) := ownJ; obtain ⟨j3, f_j3⟩ := o_j3; have o_j4 : Own (w2) (w.heap.size + 1 + 1) 4 (.int .i64 0) := ownJ; obtain ⟨j4, f_j4⟩ := o_j4; have o_j5 : Own (w2) (w.heap.size + 1 + 1) 5 (.int .i64 0) := ownJ; obtain ⟨j5, f_j5⟩ := o_j5
  go_wp2
  exact bodyPost_ret (v := .agg #[.int .i64 (addI x x').1, .int .i64 (addI x x').2, .int .i64 (addI y y').1, .int .i64 (addI y y').2, .int .i64 (addI z z').1, .int .i64 (addI z z').2]) (by simp [results, Try.results57, go_sem, j0, j1, j2, j3, j4, j5]) rfl ⟨rfl, belS⟩
theorem SubV_any (x y z x' y' z' : Iv) (ox : Ok x) (oy : Ok y) (oz : Ok z) (ox' : Ok x') (oy' : Ok y') (oz' : Ok z') (w : World) : Calls Try.prog 60 #[.agg #[.int .i64 x.1, .int .i64 x.2, .int .i64 y.1, .int .i64 y.2, .int .i64 z.1, .int .i64 z.2], .agg #[.int .i64 x'.1, .int .i64 x'.2, .int .i64 y'.1, .int .i64 y'.2, .int .i64 z'.1, .int .i64 z'.2]] w fun e w' =>
    e = .returned (.agg #[.int .i64 (subI x x').1, .int .i64 (subI x x').2, .int .i64 (subI y y').1, .int .i64 (subI y y').2, .int .i64 (subI z z').1, .int .i64 (subI z z').2]) ∧ Below w.heap.size w w' := by
  have C := Lib.hid (fun w => combined_any 120 (fun _ _ => by kernel_rfl) x y z x' y' z' (subI x x') (subI y y') (subI z z') (fun w => SubI_any x x' w) (fun w => SubI_any y y' w) (fun w => SubI_any z z' w) w)
  clear ox oy oz ox' oy' oz'
  go_enter Try.func60, Try.ntmps60
  go_wp2_with fail
  refine (C.out _).mono ?_
  rintro e w1 ⟨rfl, hb1⟩
  have hs1 : _ ≤ w1.heap.size := hb1.size
  try simp at hs1
  go_wp2_with fail
  refine (vec_any _ _ _ _).mono ?_
  rintro e w2 ⟨rfl, hb2⟩
  have hs2 : _ ≤ w2.heap.size := hb2.size
  try simp at hs2
  have o_j0 : Own (w2) (w.heap.size + 1 + 1) 0 (.int .i64 0) := ownJ; obtain ⟨j0, f_j0⟩ := o_j0; have o_j1 : Own (w2) (w.heap.size + 1 + 1) 1 (.int .i64 0) := ownJ; obtain ⟨j1, f_j1⟩ := o_j1; have o_j2 : Own (w2) (w.heap.size + 1 + 1) 2 (.int .i64 0) := ownJ; obtain ⟨j2, f_j2⟩ := o_j2; have o_j3 : Own (w2) (w.heap.size + 1 + 1) 3 (.int .i64 0) := ownJ; obtain ⟨j3, f_j3⟩ := o_j3; have o_j4 : Own (w2) (w.heap.size + 1 + 1) 4 (.int .i64 0) := ownJ; obtain ⟨j4, f_j4⟩ := o_j4; have o_j5 : Own (w2) (w.heap.size + 1 + 1) 5 (.int .i64 0) := ownJ; obtain ⟨j5, f_j5⟩ := o_j5
  go_wp2
  exact bodyPost_ret (v := .agg #[.int .i64 (subI x x').1, .int .i64 (subI x x').2, .int .i64 (subI y y').1, .int .i64 (subI y y').2, .int .i64 (subI z z').1, .int .i64 (subI z z').2]) (by simp [results, Try.results60, go_sem, j0, j1, j2, j3, j4, j5]) rfl ⟨rfl, belS⟩
theorem ScaleV_any (x y z k : Iv) (ox : Ok x) (oy : Ok y) (oz : Ok z) (ok : Ok k) (w : World) : Calls Try.prog 62 #[.agg #[.int .i64 x.1, .int .i64 x.2, .int .i64 y.1, .int .i64 y.2, .int .i64 z.1, .int .i64 z.2], .agg #[.int .i64 k.1, .int .i64 k.2]] w fun e w' =>
    e = .returned (.agg #[.int .i64 (mulI x k).1, .int .i64 (mulI x k).2, .int .i64 (mulI y k).1, .int .i64 (mulI y k).2, .int .i64 (mulI z k).1, .int .i64 (mulI z k).2]) ∧ Below w.heap.size w w' := by
  have C := Lib.hid (fun w => combined_any 97 (fun _ _ => by kernel_rfl) x y z k k k (mulI x k) (mulI y k) (mulI z k) (fun w => MulI_any x k ox ok w) (fun w => MulI_any y k oy ok w) (fun w => MulI_any z k oz ok w) w)
  clear ox oy oz ok
  go_enter Try.func62, Try.ntmps62
  go_wp2_with fail
  refine (C.out _).mono ?_
  rintro e w1 ⟨rfl, hb1⟩
  have hs1 : _ ≤ w1.heap.size := hb1.size
  try simp at hs1
  go_wp2_with fail
  refine (vec_any _ _ _ _).mono ?_
  rintro e w2 ⟨rfl, hb2⟩
  have hs2 : _ ≤ w2.heap.size := hb2.size
  try simp at hs2
  have o_j0 : Own (w2) (w.heap.size + 1 + 1) 0 (.int .i64 0) := ownJ; obtain ⟨j0, f_j0⟩ := o_j0; have o_j1 : Own (w2) (w.heap.size + 1 + 1) 1 (.int .i64 0) := ownJ; obtain ⟨j1, f_j1⟩ := o_j1; have o_j2 : Own (w2) (w.heap.size + 1 + 1) 2 (.int .i64 0) := ownJ; obtain ⟨j2, f_j2⟩ := o_j2; have o_j3 : Own (w2) (w.heap.size + 1 + 1) 3 (.int .i64 0) := ownJ; obtain ⟨j3, f_j3⟩ := o_j3; have o_j4 : Own (w2) (w.heap.size + 1 + 1) 4 (.int .i64 0) := ownJ; obtain ⟨j4, f_j4⟩ := o_j4; have o_j5 : Own (w2) (w.heap.size + 1 + 1) 5 (.int .i64 0) := ownJ; obtain ⟨j5, f_j5⟩ := o_j5
  go_wp2
  exact bodyPost_ret (v := .agg #[.int .i64 (mulI x k).1, .int .i64 (mulI x k).2, .int .i64 (mulI y k).1, .int .i64 (mulI y k).2, .int .i64 (mulI z k).1, .int .i64 (mulI z k).2]) (by simp [results, Try.results62, go_sem, j0, j1, j2, j3, j4, j5]) rfl ⟨rfl, belS⟩
theorem overAll_any (x y z k : Iv) (ox : Ok x) (oy : Ok y) (oz : Ok z) (ok : Ok k) (w : World) : Calls Try.prog 137 #[.agg #[.int .i64 x.1, .int .i64 x.2, .int .i64 y.1, .int .i64 y.2, .int .i64 z.1, .int .i64 z.2], .agg #[.int .i64 k.1, .int .i64 k.2]] w fun e w' =>
    e = .returned (.agg #[.int .i64 (divI x k).1, .int .i64 (divI x k).2, .int .i64 (divI y k).1, .int .i64 (divI y k).2, .int .i64 (divI z k).1, .int .i64 (divI z k).2]) ∧ Below w.heap.size w w' := by
  have C := Lib.hid (fun w => combined_any 181 (fun _ _ => by kernel_rfl) x y z k k k (divI x k) (divI y k) (divI z k) (fun w => DivI_any x k ox ok w) (fun w => DivI_any y k oy ok w) (fun w => DivI_any z k oz ok w) w)
  clear ox oy oz ok
  go_enter Try.func137, Try.ntmps137
  go_wp2_with fail
  refine (C.out _).mono ?_
  rintro e w1 ⟨rfl, hb1⟩
  have hs1 : _ ≤ w1.heap.size := hb1.size
  try simp at hs1
  go_wp2_with fail
  refine (vec_any _ _ _ _).mono ?_
  rintro e w2 ⟨rfl, hb2⟩
  have hs2 : _ ≤ w2.heap.size := hb2.size
  try simp at hs2
  have o_j0 : Own (w2) (w.heap.size + 1 + 1) 0 (.int .i64 0) := ownJ; obtain ⟨j0, f_j0⟩ := o_j0; have o_j1 : Own (w2) (w.heap.size + 1 + 1) 1 (.int .i64 0) := ownJ; obtain ⟨j1, f_j1⟩ := o_j1; have o_j2 : Own (w2) (w.heap.size + 1 + 1) 2 (.int .i64 0) := ownJ; obtain ⟨j2, f_j2⟩ := o_j2; have o_j3 : Own (w2) (w.heap.size + 1 + 1) 3 (.int .i64 0) := ownJ; obtain ⟨j3, f_j3⟩ := o_j3; have o_j4 : Own (w2) (w.heap.size + 1 + 1) 4 (.int .i64 0) := ownJ; obtain ⟨j4, f_j4⟩ := o_j4; have o_j5 : Own (w2) (w.heap.size + 1 + 1) 5 (.int .i64 0) := ownJ; obtain ⟨j5, f_j5⟩ := o_j5
  go_wp2
  exact bodyPost_ret (v := .agg #[.int .i64 (divI x k).1, .int .i64 (divI x k).2, .int .i64 (divI y k).1, .int .i64 (divI y k).2, .int .i64 (divI z k).1, .int .i64 (divI z k).2]) (by simp [results, Try.results137, go_sem, j0, j1, j2, j3, j4, j5]) rfl ⟨rfl, belS⟩
end Go.Proofs.Ytmikjgbojknlnaa
