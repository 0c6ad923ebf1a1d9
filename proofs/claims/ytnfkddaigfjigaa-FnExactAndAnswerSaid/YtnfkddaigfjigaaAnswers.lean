/- What the functions on answers compute, program and model alike: contracts at every pair of numbers. No conditions. -/
import Derived.Test.YtnfkddaigfjigaaBase
namespace Go.Proofs.Ytnfkddaigfjigaa
open Go.ChangeShapes Go.WideShapes Go.ChangeAt Go.RowKit

/-- A number is 0, 1, or neither; with the tests decided as the walk writes them. -/
theorem answer_cases (a : Int) : a = 0 ∨ a = 1 ∨ ((a == 0) = false ∧ (a == 1) = false) := by
  by_cases h : a = 0
  · exact .inl h
  · by_cases h1 : a = 1
    · exact .inr (.inl h1)
    · exact .inr (.inr ⟨by simpa using h, by simpa using h1⟩)

theorem and_law (a b : Int) (w : World) : Calls Try.prog 5 #[.int .i64 a, .int .i64 b] w fun e w' => e = .returned (.bool true) ∧ Below w.heap.size w w' := by
  rcases answer_cases a with rfl | rfl | ⟨a0, a1⟩ <;> rcases answer_cases b with rfl | rfl | ⟨b0, b1⟩
  all_goals
    go_enter Try.func5, Try.ntmps5
    go_wp2
    go_ret
    exact ⟨rfl, Below.refl _ _⟩

theorem or_law (a b : Int) (w : World) : Calls Try.prog 6 #[.int .i64 a, .int .i64 b] w fun e w' => e = .returned (.bool true) ∧ Below w.heap.size w w' := by
  rcases answer_cases a with rfl | rfl | ⟨a0, a1⟩ <;> rcases answer_cases b with rfl | rfl | ⟨b0, b1⟩
  all_goals
    go_enter Try.func6, Try.ntmps6
    go_wp2
    go_ret
    exact ⟨rfl, Below.refl _ _⟩
theorem not_law (a : Int) (w : World) : Calls Try.prog 7 #[.int .i64 a] w fun e w' => e = .returned (.bool true) ∧ Below w.heap.size w w' := by
  rcases answer_cases a with rfl | rfl | ⟨a0, a1⟩
  all_goals
    go_enter Try.func7, Try.ntmps7
    go_wp2
    go_ret
    exact ⟨rfl, Below.refl _ _⟩
end Go.Proofs.Ytnfkddaigfjigaa
