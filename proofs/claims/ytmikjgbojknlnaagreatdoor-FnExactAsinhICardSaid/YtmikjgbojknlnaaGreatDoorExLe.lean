/- The laws of logarithms and of inverse hyperbolic functions of intervals. Conditions: numbers are int64; the program's interval is laid. -/
import Derived.Test.YtmikjgbojknlnaaGreatDoorIvK
import Derived.Test.YtmikjgbojknlnaaGreatDoorExPl
import Derived.Test.YtmikjgbojknlnaaGreatDoorExRl
import Derived.Outline
namespace Go.Proofs.YtmikjgbojknlnaaGreatDoor
open Go.ChangeShapes Go.WideShapes Go.ChangeAt Go.RowKit
set_option linter.unusedVariables false
set_option maxRecDepth 100000
set_option linter.unusedSimpArgs false
set_option maxHeartbeats 1000000
theorem law_AsinhI (x : Iv) (hx : Ok x) (w : World) (hg : GloT w) : Calls Tryz.prog 12 #[.agg #[.int .i64 x.1, .int .i64 x.2]] w fun e w' =>
    e = .returned (.bool true) ∧ Below w.heap.size w w' := by
  have SP := Lib.hid (fun w => sAsinhI_any x hx w)
  have IM := Lib.hid (fun w hg => AsinhI_any x hx w hg)
  generalize monI (oddF asihP) x = r at *
  go_enter Tryz.func12, Tryz.ntmps12
  go_wp2_with fail
  refine (toInterval_any x _).mono ?_
  rintro e w1 ⟨rfl, hb1⟩
  have hs1 : _ ≤ w1.heap.size := hb1.size
  try simp at hs1
  go_wp2_with fail
  refine (SP.out _).mono ?_
  rintro e w2 ⟨rfl, hb2⟩
  have hs2 : _ ≤ w2.heap.size := hb2.size
  try simp at hs2
  have o_p20 : Own (w2) (w.heap.size) 0 (.int .i64 x.1) := ownJ; obtain ⟨p20, f_p20⟩ := o_p20; have o_p21 : Own (w2) (w.heap.size) 1 (.int .i64 x.2) := ownJ; obtain ⟨p21, f_p21⟩ := o_p21
  have lp2 : w.heap.size < w2.heap.size := World.block_lt_of_cell? _ _ p20
  have np2 : ¬ w.heap.size = w2.heap.size := Nat.ne_of_lt lp2
  have mp2 : ¬ w2.heap.size = w.heap.size := Nat.ne_of_gt lp2
  go_wp2_with fail
  refine (toInterval_any x _).mono ?_
  rintro e w3 ⟨rfl, hb3⟩
  have hs3 : _ ≤ w3.heap.size := hb3.size
  try simp at hs3
  go_wp2_with fail
  refine (IM.out _ (by repeat (first | (with_reducible assumption) | (with_reducible refine GloT.drew ?_) | (with_reducible refine GloT.kept ?_ (by assumption)) | (with_reducible refine GloT.alloc ?_ _)))).mono ?_
  rintro e w4 ⟨rfl, hb4⟩
  have hs4 : _ ≤ w4.heap.size := hb4.size
  try simp at hs4
  have o_g40 : Own (w4) (w2.heap.size) 0 (.int .i64 r.1) := ownJ; obtain ⟨g40, f_g40⟩ := o_g40; have o_g41 : Own (w4) (w2.heap.size) 1 (.int .i64 r.2) := ownJ; obtain ⟨g41, f_g41⟩ := o_g41
  have lg4 : w2.heap.size < w4.heap.size := World.block_lt_of_cell? _ _ g40
  have ng4 : ¬ w2.heap.size = w4.heap.size := Nat.ne_of_lt lg4
  have mg4 : ¬ w4.heap.size = w2.heap.size := Nat.ne_of_gt lg4
  go_wp2_with fail
  refine (eqInterval_same _ _ _).mono ?_
  rintro e w5 ⟨rfl, hb5⟩
  have hs5 : _ ≤ w5.heap.size := hb5.size
  try simp at hs5
  go_wp2
  go_ret
  exact ⟨rfl, belB⟩
end Go.Proofs.YtmikjgbojknlnaaGreatDoor
