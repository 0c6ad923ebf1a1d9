/- Contracts of products with powers of 2, of wider intervals and of ends, program and model. Conditions: numbers are int64. -/
import Derived.Test.YtnnanbaldcjfiaaExN
import Derived.Test.YtnnanbaldcjfiaaAtZ
import Derived.Test.YtnnanbaldcjfiaaIvA
import Derived.Test.YtnnanbaldcjfiaaIvD
import Derived.Test.YtnnanbaldcjfiaaIvM
import Derived.Test.YtnnanbaldcjfiaaIvLd
import Derived.Deep.RegionHeld3
import Derived.Outline
namespace Go.Proofs.Ytnnanbaldcjfiaa
open Go.ChangeShapes Go.WideShapes Go.ChangeAt Go.RowKit
set_option linter.unusedVariables false
set_option maxRecDepth 100000
set_option linter.unusedSimpArgs false
set_option maxHeartbeats 1000000
/-- A condition that holds throughout. -/
def StayS (C : World → Prop) (L : Array Bool) (u : World) : Prop := C u
theorem StayS.mk {C : World → Prop} {L : Array Bool} {u : World} (h : C u) : StayS C L u := h
theorem wrap_same (n : Int) : IntKind.i64.wrap n = wrap64 n := by rw [wrap64_def, IntKind.wrap_i64]
theorem neg_ok {x : Int} (h : -9223372036854775807 ≤ x) (k : x ≤ 9223372036854775807) : IntKind.i64.wrap (-x) = -x := wrapS (by unfold In64; omega)
theorem shr_wrap {x : Iv} (h : InF x.2) (j : Nat) : IntKind.i64.wrap (-(-x.2 / 2 ^ j)) = -(-x.2 / 2 ^ j) := by
  unfold InF at h
  exact wrapS (neg_div_in (by unfold In64; omega) j (by omega))
theorem one_fix : intI 1 = (4294967296, 4294967296) := by decide
theorem make_one {n : Int} (h : FixN n) : can (n, n) = (n, n) := can_yes (by unfold FixN at h; unfold Bnd; simp only; omega)
theorem l08At_any (n : Int) (w : World) : Calls Try.prog 104 #[.int .i64 n] w fun e w' =>
    e = .returned (.agg #[.int .i64 (can (n, n)).1, .int .i64 (can (n, n)).2]) ∧ Below w.heap.size w w' := by
  go_enter Try.func104, Try.ntmps104
  go_wp2_with fail
  refine (l04Make_any n n _).mono ?_
  rintro e w1 ⟨rfl, hb1⟩
  have hs1 : _ ≤ w1.heap.size := hb1.size
  try simp at hs1
  have o_qr10 : Own (w1) (w.heap.size) 0 (.int .i64 0) := ownJ; obtain ⟨qr10, f_qr10⟩ := o_qr10; have o_qr11 : Own (w1) (w.heap.size) 1 (.int .i64 0) := ownJ; obtain ⟨qr11, f_qr11⟩ := o_qr11
  go_wp2
  exact bodyPost_ret (v := .agg #[.int .i64 (can (n, n)).1, .int .i64 (can (n, n)).2]) (by simp [results, Try.results104, go_sem, qr10, qr11]) rfl ⟨rfl, belB⟩
theorem l08One_any (w : World) : Calls Try.prog 56 #[] w fun e w' =>
    e = .returned (.agg #[.int .i64 (intI 1).1, .int .i64 (intI 1).2]) ∧ Below w.heap.size w w' := by
  have E := Lib.hid (show can (4294967296, 4294967296) = intI 1 by decide)
  have L := fun w => l08At_any 4294967296 w
  rw [E.out] at L
  go_enter Try.func56, Try.ntmps56
  go_wp2_with fail
  refine (L _).mono ?_
  rintro e w1 ⟨rfl, hb1⟩
  have hs1 : _ ≤ w1.heap.size := hb1.size
  try simp at hs1
  have o_qr10 : Own (w1) (w.heap.size) 0 (.int .i64 0) := ownJ; obtain ⟨qr10, f_qr10⟩ := o_qr10; have o_qr11 : Own (w1) (w.heap.size) 1 (.int .i64 0) := ownJ; obtain ⟨qr11, f_qr11⟩ := o_qr11
  go_wp2
  exact bodyPost_ret (v := .agg #[.int .i64 (intI 1).1, .int .i64 (intI 1).2]) (by simp [results, Try.results56, go_sem, qr10, qr11]) rfl ⟨rfl, belB⟩
end Go.Proofs.Ytnnanbaldcjfiaa
