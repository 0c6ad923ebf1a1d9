/- Contracts of the plainest functions on wide integers, program and model alike. Conditions: numbers are int64 or Wide. -/
import Derived.Test.YtnfkddaigfjigabBase
import Derived.Test.YtnfkddaigfjigabNumB
namespace Go.Proofs.Ytnfkddaigfjigab
open Go.ChangeShapes Go.WideShapes Go.ChangeAt Go.RowKit
set_option linter.unusedVariables false


theorem l02Of_any (n : Int) (hn : In64 n) (w : World) : Calls Try.prog 57 #[.int .i64 n] w fun e w' =>
    e = .returned (.agg #[.int .i64 (hiW n), .int .u64 (loW n)]) ∧ Below w.heap.size w w' := by
  by_cases h : n < 0
  · have e1 := Lib.hid (hiW_neg hn h)
    go_enter Try.func57, Try.ntmps57
    go_wp2
    exact bodyPost_ret (v := .agg #[.int .i64 (-1), .int .u64 (IntKind.u64.wrap n)]) (by simp [results, Try.results57, go_sem]) rfl ⟨by rw [e1.out, wrapU], (by repeat (first | exact Below.refl _ _ | refine Below.drew ?_ | refine Below.setCell ?_ (by first | omega | (simp; done) | (simp; omega)) _ | refine Below.alloc ?_ (by first | omega | (simp; done) | (simp; omega)) _ | refine Below.trans ?_ (Below.mono (by assumption) (by first | omega | (simp; done) | (simp; omega)))))⟩
  · have e1 := Lib.hid (hiW_pos hn h)
    go_enter Try.func57, Try.ntmps57
    go_wp2
    exact bodyPost_ret (v := .agg #[.int .i64 0, .int .u64 (IntKind.u64.wrap n)]) (by simp [results, Try.results57, go_sem]) rfl ⟨by rw [e1.out, wrapU], (by repeat (first | exact Below.refl _ _ | refine Below.drew ?_ | refine Below.setCell ?_ (by first | omega | (simp; done) | (simp; omega)) _ | refine Below.alloc ?_ (by first | omega | (simp; done) | (simp; omega)) _ | refine Below.trans ?_ (Below.mono (by assumption) (by first | omega | (simp; done) | (simp; omega)))))⟩
theorem hi_shift {n : Int} (hn : In64 n) : n / 9223372036854775808 = hiW n := by
  unfold In64 at hn; unfold hiW B64; omega
theorem WideOf_any (n : Int) (hn : In64 n) (w : World) : Calls Try.prog 39 #[.int .i64 n] w fun e w' =>
    e = .returned (.agg #[.int .i64 (hiW n), .int .u64 (loW n)]) ∧ Below w.heap.size w w' := by
  have e1 := Lib.hid (hi_shift hn)
  go_enter Try.func39, Try.ntmps39
  go_wp2
  exact bodyPost_ret (v := .agg #[.int .i64 (n / 9223372036854775808), .int .u64 (IntKind.u64.wrap n)]) (by simp [results, Try.results39, go_sem]) rfl ⟨by rw [e1.out, wrapU], (by repeat (first | exact Below.refl _ _ | refine Below.drew ?_ | refine Below.setCell ?_ (by first | omega | (simp; done) | (simp; omega)) _ | refine Below.alloc ?_ (by first | omega | (simp; done) | (simp; omega)) _ | refine Below.trans ?_ (Below.mono (by assumption) (by first | omega | (simp; done) | (simp; omega)))))⟩
theorem eqWide_same (h l : Int) (w : World) : Calls Try.prog 19 #[.agg #[.int .i64 h, .int .u64 l], .agg #[.int .i64 h, .int .u64 l]] w fun e w' =>
    e = .returned (.bool true) ∧ Below w.heap.size w w' := by
  go_enter Try.func19, Try.ntmps19
  go_wp2
  go_ret
  exact ⟨rfl, (by repeat (first | exact Below.refl _ _ | refine Below.drew ?_ | refine Below.setCell ?_ (by first | omega | (simp; done) | (simp; omega)) _ | refine Below.alloc ?_ (by first | omega | (simp; done) | (simp; omega)) _ | refine Below.trans ?_ (Below.mono (by assumption) (by first | omega | (simp; done) | (simp; omega)))))⟩
theorem toWide_exact (h l : Int) (w : World) : Calls Try.prog 15 #[.agg #[.int .i64 h, .int .u64 l]] w fun e w' =>
    e = .returned (.agg #[.int .i64 h, .int .u64 l]) ∧ ((w.alloc (.cells #[.int .i64 h, .int .u64 l] 24)).alloc (.cells #[.int .i64 h, .int .u64 l] 27)).alloc (.cells #[.int .i64 h, .int .u64 l] 27) = w' := by
  go_enter Try.func15, Try.ntmps15
  go_wp2
  exact bodyPost_ret (v := .agg #[.int .i64 h, .int .u64 l]) (by simp [results, Try.results15, go_sem]) rfl ⟨rfl, rfl⟩
theorem toWide_any (h l : Int) (w : World) : Calls Try.prog 15 #[.agg #[.int .i64 h, .int .u64 l]] w fun e w' =>
    e = .returned (.agg #[.int .i64 h, .int .u64 l]) ∧ Below w.heap.size w w' := by
  go_enter Try.func15, Try.ntmps15
  go_wp2
  exact bodyPost_ret (v := .agg #[.int .i64 h, .int .u64 l]) (by simp [results, Try.results15, go_sem]) rfl ⟨rfl, (by repeat (first | exact Below.refl _ _ | refine Below.drew ?_ | refine Below.setCell ?_ (by first | omega | (simp; done) | (simp; omega)) _ | refine Below.alloc ?_ (by first | omega | (simp; done) | (simp; omega)) _ | refine Below.trans ?_ (Below.mono (by assumption) (by first | omega | (simp; done) | (simp; omega)))))⟩
end Go.Proofs.Ytnfkddaigfjigab
