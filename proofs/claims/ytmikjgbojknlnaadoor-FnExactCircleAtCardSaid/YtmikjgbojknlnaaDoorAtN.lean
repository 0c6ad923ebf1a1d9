/- The laws of the series of the arc tangent and of the root of 1 minus a square. Conditions: numbers are int64; the program's two intervals are laid. -/
import Derived.Test.YtmikjgbojknlnaaDoorIvK
import Derived.Test.YtmikjgbojknlnaaDoorAtA
import Derived.Test.YtmikjgbojknlnaaDoorAtB
import Derived.Test.YtmikjgbojknlnaaDoorAtH
import Derived.Outline
namespace Go.Proofs.YtmikjgbojknlnaaDoor
open Go.ChangeShapes Go.WideShapes Go.ChangeAt Go.RowKit
set_option linter.unusedVariables false
set_option maxRecDepth 100000
set_option linter.unusedSimpArgs false
set_option maxHeartbeats 1000000
theorem law_CircleAt (n : Int) (hn : In64 n) (w : World) (hg : GloR w) : Calls Tryd.prog 3 #[.int .i64 n] w fun e w' =>
    e = .returned (.bool true) ∧ Below w.heap.size w w' := by
  have SP := Lib.hid (fun w => sCircleAt_any n w)
  have IM := Lib.hid (fun w hg => CircleAt_any n w hg)
  generalize cirC n = r at *
  go_enter Tryd.func3, Tryd.ntmps3
  go_wp2_with fail
  refine (SP.out _).mono ?_
  rintro e w1 ⟨rfl, hb1⟩
  have hs1 : _ ≤ w1.heap.size := hb1.size
  try simp at hs1
  go_wp2_with fail
  refine (IM.out _ (by repeat (first | (with_reducible assumption) | (with_reducible refine GloR.drew ?_) | (with_reducible refine GloR.kept ?_ (by assumption)) | (with_reducible refine GloR.alloc ?_ _)))).mono ?_
  rintro e w2 ⟨rfl, hb2⟩
  have hs2 : _ ≤ w2.heap.size := hb2.size
  try simp at hs2
  have o_g20 : Own (w2) (w1.heap.size) 0 (.int .i64 r.1) := ownJ; obtain ⟨g20, f_g20⟩ := o_g20; have o_g21 : Own (w2) (w1.heap.size) 1 (.int .i64 r.2) := ownJ; obtain ⟨g21, f_g21⟩ := o_g21
  have lg2 : w1.heap.size < w2.heap.size := World.block_lt_of_cell? _ _ g20
  have ng2 : ¬ w1.heap.size = w2.heap.size := Nat.ne_of_lt lg2
  have mg2 : ¬ w2.heap.size = w1.heap.size := Nat.ne_of_gt lg2
  go_wp2_with fail
  refine (eqInterval_same _ _ _).mono ?_
  rintro e w3 ⟨rfl, hb3⟩
  have hs3 : _ ≤ w3.heap.size := hb3.size
  try simp at hs3
  go_wp2
  go_ret
  exact ⟨rfl, belB⟩
end Go.Proofs.YtmikjgbojknlnaaDoor
