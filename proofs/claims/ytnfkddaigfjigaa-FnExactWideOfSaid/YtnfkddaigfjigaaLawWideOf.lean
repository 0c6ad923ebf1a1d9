/- The law of WideOf: at every int64 the program and the model give the same wide integer. No conditions. -/
import Derived.Test.YtnfkddaigfjigaaWideA
namespace Go.Proofs.Ytnfkddaigfjigaa
open Go.ChangeShapes Go.WideShapes Go.ChangeAt Go.RowKit

theorem law_WideOf (n : Int) (hn : In64 n) (w : World) : Calls Try.prog 10 #[.int .i64 n] w fun e w' =>
    e = .returned (.bool true) ∧ Below w.heap.size w w' := by
  go_enter Try.func10, Try.ntmps10
  go_wp2_with fail
  refine (sWideOf_any n hn _).mono ?_
  rintro e w1 ⟨rfl, hb1⟩
  have hs1 : _ ≤ w1.heap.size := hb1.size
  try simp at hs1
  go_wp2_with fail
  refine (WideOf_any n hn _).mono ?_
  rintro e w2 ⟨rfl, hb2⟩
  have hs2 : _ ≤ w2.heap.size := hb2.size
  try simp at hs2
  obtain ⟨hc2, hf2⟩ := old_kept hb2; have hz2 : w1.heap.size < w2.heap.size := Nat.lt_of_lt_of_le (by simp) hb2.size
  go_wp2_with fail
  refine (eqWide_same _ _ _).mono ?_
  rintro e w3 ⟨rfl, hb3⟩
  have hs3 : _ ≤ w3.heap.size := hb3.size
  try simp at hs3
  go_wp2
  go_ret
  exact ⟨rfl, (by repeat (first | exact Below.refl _ _ | refine Below.drew ?_ | refine Below.setCell ?_ (by first | omega | (simp; done) | (simp; omega)) _ | refine Below.alloc ?_ (by first | omega | (simp; done) | (simp; omega)) _ | refine Below.trans ?_ (Below.mono (by assumption) (by first | omega | (simp; done) | (simp; omega)))))⟩
end Go.Proofs.Ytnfkddaigfjigaa
