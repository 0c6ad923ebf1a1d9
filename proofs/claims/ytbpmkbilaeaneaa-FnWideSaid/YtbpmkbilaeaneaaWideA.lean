/- Contracts of the plainest functions on wide integers, program and model alike. Conditions: numbers are int64 or Wide. -/
import Derived.Test.YtbpmkbilaeaneaaBase
import Derived.Test.YtbpmkbilaeaneaaNumB
namespace Go.Proofs.Ytbpmkbilaeaneaa
open Go.ChangeShapes Go.WideShapes Go.ChangeAt Go.RowKit
set_option linter.unusedVariables false
set_option maxRecDepth 100000
set_option linter.unusedSimpArgs false
set_option maxHeartbeats 1000000


theorem hi_shift {n : Int} (hn : In64 n) : n / 9223372036854775808 = hiW n := by
  unfold In64 at hn; unfold hiW B64; omega
theorem WideOf_any (n : Int) (hn : In64 n) (w : World) : Calls Try.prog 15 #[.int .i64 n] w fun e w' =>
    e = .returned (.agg #[.int .i64 (hiW n), .int .u64 (loW n)]) ∧ Below w.heap.size w w' := by
  have e1 := Lib.hid (hi_shift hn)
  go_enter Try.func15, Try.ntmps15
  go_wp2
  exact bodyPost_ret (v := .agg #[.int .i64 (n / 9223372036854775808), .int .u64 (IntKind.u64.wrap n)]) (by simp [results, Try.results15, go_sem]) rfl ⟨by rw [e1.out, wrapU], (by repeat (first | exact Below.refl _ _ | refine Below.drew ?_ | refine Below.setCell ?_ (by first | omega | (simp; done) | (simp; omega)) _ | refine Below.alloc ?_ (by first | omega | (simp; done) | (simp; omega)) _ | refine Below.trans ?_ (Below.mono (by assumption) (by first | omega | (simp; done) | (simp; omega)))))⟩
end Go.Proofs.Ytbpmkbilaeaneaa
