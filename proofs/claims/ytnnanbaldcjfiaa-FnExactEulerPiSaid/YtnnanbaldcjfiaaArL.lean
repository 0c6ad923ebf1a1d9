/- The laws of ArcCotangent, MachinPi and EulerPi. Conditions: numbers are int64. -/
import Derived.Test.YtnnanbaldcjfiaaIvK
import Derived.Test.YtnnanbaldcjfiaaArH
import Derived.Outline
namespace Go.Proofs.Ytnnanbaldcjfiaa
open Go.ChangeShapes Go.WideShapes Go.ChangeAt Go.RowKit
set_option linter.unusedVariables false
set_option maxRecDepth 100000
set_option linter.unusedSimpArgs false
set_option maxHeartbeats 1000000
theorem law_ArcCotangent (n t : Int) (w : World) : Calls Try.prog 8 #[.int .i64 n, .int .i64 t] w fun e w' =>
    e = .returned (.bool true) ∧ Below w.heap.size w w' := by
  have SP := Lib.hid (fun w => sArcCotangent_any n t w)
  have IM := Lib.hid (fun w => ArcCotangent_any n t w)
  generalize arcC n t = r at *
  go_enter Try.func8, Try.ntmps8
  go_wp2_with fail
  refine (SP.out _).mono ?_
  rintro e w1 ⟨rfl, hb1⟩
  have hs1 : _ ≤ w1.heap.size := hb1.size
  try simp at hs1
  go_wp2_with fail
  refine (IM.out _).mono ?_
  rintro e w2 ⟨rfl, hb2⟩
  have hs2 : _ ≤ w2.heap.size := hb2.size
  try simp at hs2
  have o_g20 : Own (w2) (w1.heap.size) 0 (.int .i64 r.1) := ownJ; obtain ⟨g20, f_g20⟩ := o_g20; have o_g21 : Own (w2) (w1.heap.size) 1 (.int .i64 r.2) := ownJ; obtain ⟨g21, f_g21⟩ := o_g21
  have lg2 : w1.heap.size < w2.heap.size := World.block_lt_of_cell? _ _ g20
  have ng2 : ¬ w1.heap.size = w2.heap.size := Nat.ne_of_lt lg2
  have mg2 : ¬ w2.heap.size = w1.heap.size := Nat.ne_of_gt lg2
  go_wp2_with fail
  refine (eqInterval_same _ _ _).mono ?_
  rintro e w3 ⟨rfl, hb3⟩
  have hs3 : _ ≤ w3.heap.size := hb3.size
  try simp at hs3
  go_wp2
  go_ret
  exact ⟨rfl, belB⟩
theorem law_MachinPi (t : Int) (w : World) : Calls Try.prog 9 #[.int .i64 t] w fun e w' =>
    e = .returned (.bool true) ∧ Below w.heap.size w w' := by
  have SP := Lib.hid (fun w => sMachinPi_any t w)
  have IM := Lib.hid (fun w => MachinPi_any t w)
  generalize macI t = r at *
  go_enter Try.func9, Try.ntmps9
  go_wp2_with fail
  refine (SP.out _).mono ?_
  rintro e w1 ⟨rfl, hb1⟩
  have hs1 : _ ≤ w1.heap.size := hb1.size
  try simp at hs1
  go_wp2_with fail
  refine (IM.out _).mono ?_
  rintro e w2 ⟨rfl, hb2⟩
  have hs2 : _ ≤ w2.heap.size := hb2.size
  try simp at hs2
  have o_g20 : Own (w2) (w1.heap.size) 0 (.int .i64 r.1) := ownJ; obtain ⟨g20, f_g20⟩ := o_g20; have o_g21 : Own (w2) (w1.heap.size) 1 (.int .i64 r.2) := ownJ; obtain ⟨g21, f_g21⟩ := o_g21
  have lg2 : w1.heap.size < w2.heap.size := World.block_lt_of_cell? _ _ g20
  have ng2 : ¬ w1.heap.size = w2.heap.size := Nat.ne_of_lt lg2
  have mg2 : ¬ w2.heap.size = w1.heap.size := Nat.ne_of_gt lg2
  go_wp2_with fail
  refine (eqInterval_same _ _ _).mono ?_
  rintro e w3 ⟨rfl, hb3⟩
  have hs3 : _ ≤ w3.heap.size := hb3.size
  try simp at hs3
  go_wp2
  go_ret
  exact ⟨rfl, belB⟩
theorem law_EulerPi (t : Int) (w : World) : Calls Try.prog 10 #[.int .i64 t] w fun e w' =>
    e = .returned (.bool true) ∧ Below w.heap.size w w' := by
  have SP := Lib.hid (fun w => sEulerPi_any t w)
  have IM := Lib.hid (fun w => EulerPi_any t w)
  generalize eulI t = r at *
  go_enter Try.func10, Try.ntmps10
  go_wp2_with fail
  refine (SP.out _).mono ?_
  rintro e w1 ⟨rfl, hb1⟩
  have hs1 : _ ≤ w1.heap.size := hb1.size
  try simp at hs1
  go_wp2_with fail
  refine (IM.out _).mono ?_
  rintro e w2 ⟨rfl, hb2⟩
  have hs2 : _ ≤ w2.heap.size := hb2.size
  try simp at hs2
  have o_g20 : Own (w2) (w1.heap.size) 0 (.int .i64 r.1) := ownJ; obtain ⟨g20, f_g20⟩ := o_g20; have o_g21 : Own (w2) (w1.heap.size) 1 (.int .i64 r.2) := ownJ; obtain ⟨g21, f_g21⟩ := o_g21
  have lg2 : w1.heap.size < w2.heap.size := World.block_lt_of_cell? _ _ g20
  have ng2 : ¬ w1.heap.size = w2.heap.size := Nat.ne_of_lt lg2
  have mg2 : ¬ w2.heap.size = w1.heap.size := Nat.ne_of_gt lg2
  go_wp2_with fail
  refine (eqInterval_same _ _ _).mono ?_
  rintro e w3 ⟨rfl, hb3⟩
  have hs3 : _ ≤ w3.heap.size := hb3.size
  try simp at hs3
  go_wp2
  go_ret
  exact ⟨rfl, belB⟩
end Go.Proofs.Ytnnanbaldcjfiaa
