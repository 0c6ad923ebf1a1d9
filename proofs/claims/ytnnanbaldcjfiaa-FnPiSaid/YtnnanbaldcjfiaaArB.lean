/- A contract of the function that makes the closure of the terms of an arc cotangent. Conditions: numbers are int64. -/
import Derived.Test.YtnnanbaldcjfiaaArA
import Derived.Outline
namespace Go.Proofs.Ytnnanbaldcjfiaa
open Go.ChangeShapes Go.WideShapes Go.ChangeAt Go.RowKit
set_option linter.unusedVariables false
set_option maxRecDepth 100000
set_option linter.unusedSimpArgs false
set_option maxHeartbeats 1000000
theorem arcTerms_any (n : Int) (hn : In64 n) (w : World) : Calls Try.prog 78 #[.int .i64 n] w fun e w' =>
    ∃ g, e = .returned (.func (Fn.func 119) #[] #[.pointer (some ⟨g, 0, none⟩), .pointer (some ⟨g + 1, 0, none⟩), .pointer (some ⟨w.heap.size, 0, none⟩)]) ∧ w.heap.size < g ∧
      Own w' g 0 (.int .i64 (quoI 1 n).1) ∧ Own w' g 1 (.int .i64 (quoI 1 n).2) ∧ Own w' (g + 1) 0 (.int .i64 1) ∧ w'.cell? ⟨w.heap.size, 0, none⟩ = some (.int .i64 n) ∧ g + 1 < w'.heap.size ∧ Below w.heap.size w w' := by
  have hmf : ∀ (fn : Fn) (first cap : Array Value) (w : World), (Instr.makeFunc fn first cap).run Try.prog w = .ok (.func fn first cap) w := fun _ _ _ _ => rfl
  have Q := Lib.hid (fun w => Quotient_any 1 n (by unfold In64; omega) hn w)
  generalize quoI 1 n = q at *
  go_enter Try.func78, Try.ntmps78
  go_wp2_with fail
  refine (Q.out _).mono ?_
  rintro e w1 ⟨rfl, hb1⟩
  have hs1 : _ ≤ w1.heap.size := hb1.size
  try simp at hs1
  have o_n10 : Own (w1) (w.heap.size) 0 (.int .i64 n) := ownJ; have n10 := o_n10.1; have f_n10 := o_n10.2
  have ln := World.block_lt_of_cell? _ _ n10
  go_wp2
  go_ret
  refine ⟨w1.heap.size, rfl, ln, ⟨?_, ?_⟩, ⟨?_, ?_⟩, ⟨?_, ?_⟩, ?_, ?_, belB⟩
  all_goals first | (simp [go_sem]; done) | (simp [go_sem, *]; done) | (simp; omega) | trace_state
end Go.Proofs.Ytnnanbaldcjfiaa
