/- Contracts of the plainest functions on wide integers, program and model alike. Conditions: numbers are int64 or Wide. -/
import Derived.Test.YtfikgbamnlmglaaBase
import Derived.Test.YtfikgbamnlmglaaNumB
namespace Go.Proofs.Ytfikgbamnlmglaa
open Go.ChangeShapes Go.WideShapes Go.ChangeAt Go.RowKit
set_option linter.unusedVariables false


theorem l02Of_any (n : Int) (hn : In64 n) (w : World) : Calls Try.prog 162 #[.int .i64 n] w fun e w' =>
    e = .returned (.agg #[.int .i64 (hiW n), .int .u64 (loW n)]) ∧ Below w.heap.size w w' := by
  by_cases h : n < 0
  · have e1 := Lib.hid (hiW_neg hn h)
    go_enter Try.func162, Try.ntmps162
    go_wp2
    exact bodyPost_ret (v := .agg #[.int .i64 (-1), .int .u64 (IntKind.u64.wrap n)]) (by simp [results, Try.results162, go_sem]) rfl ⟨by rw [e1.out, wrapU], (by repeat (first | exact Below.refl _ _ | refine Below.drew ?_ | refine Below.setCell ?_ (by first | omega | (simp; done) | (simp; omega)) _ | refine Below.alloc ?_ (by first | omega | (simp; done) | (simp; omega)) _ | refine Below.trans ?_ (Below.mono (by assumption) (by first | omega | (simp; done) | (simp; omega)))))⟩
  · have e1 := Lib.hid (hiW_pos hn h)
    go_enter Try.func162, Try.ntmps162
    go_wp2
    exact bodyPost_ret (v := .agg #[.int .i64 0, .int .u64 (IntKind.u64.wrap n)]) (by simp [results, Try.results162, go_sem]) rfl ⟨by rw [e1.out, wrapU], (by repeat (first | exact Below.refl _ _ | refine Below.drew ?_ | refine Below.setCell ?_ (by first | omega | (simp; done) | (simp; omega)) _ | refine Below.alloc ?_ (by first | omega | (simp; done) | (simp; omega)) _ | refine Below.trans ?_ (Below.mono (by assumption) (by first | omega | (simp; done) | (simp; omega)))))⟩
theorem hi_shift {n : Int} (hn : In64 n) : n / 9223372036854775808 = hiW n := by
  unfold In64 at hn; unfold hiW B64; omega
theorem WideOf_any (n : Int) (hn : In64 n) (w : World) : Calls Try.prog 145 #[.int .i64 n] w fun e w' =>
    e = .returned (.agg #[.int .i64 (hiW n), .int .u64 (loW n)]) ∧ Below w.heap.size w w' := by
  have e1 := Lib.hid (hi_shift hn)
  go_enter Try.func145, Try.ntmps145
  go_wp2
  exact bodyPost_ret (v := .agg #[.int .i64 (n / 9223372036854775808), .int .u64 (IntKind.u64.wrap n)]) (by simp [results, Try.results145, go_sem]) rfl ⟨by rw [e1.out, wrapU], (by repeat (first | exact Below.refl _ _ | refine Below.drew ?_ | refine Below.setCell ?_ (by first | omega | (simp; done) | (simp; omega)) _ | refine Below.alloc ?_ (by first | omega | (simp; done) | (simp; omega)) _ | refine Below.trans ?_ (Below.mono (by assumption) (by first | omega | (simp; done) | (simp; omega)))))⟩
end Go.Proofs.Ytfikgbamnlmglaa
