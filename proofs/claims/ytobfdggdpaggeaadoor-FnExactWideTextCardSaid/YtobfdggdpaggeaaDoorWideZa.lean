/- Contracts of the plainest functions on wide integers, program and model alike. Conditions: numbers are int64 or Wide. Contracts of negatives, complements, sums and int64 values of wide integers, program and model alike. Conditions: numbers are int64 or Wide. Contracts of products of wide integers, program and model alike. Conditions: numbers are int64 or uint64. Contracts of products of int64 as wide integers, program and model alike. Conditions: numbers are int64. -/
import Derived.Test.YtobfdggdpaggeaaDoorBase
import Derived.Test.YtobfdggdpaggeaaDoorNumZ
import Derived.Shelf.Spec.BitsCarry
import Derived.Deep.RegionHeld3
import Derived.Outline
namespace Go.Proofs.YtobfdggdpaggeaaDoor
open Go.ChangeShapes Go.WideShapes Go.ChangeAt Go.RowKit
set_option linter.unusedVariables false
set_option maxRecDepth 100000
set_option linter.unusedSimpArgs false
set_option maxHeartbeats 1000000


theorem toWide_exact (h l : Int) (w : World) : Calls Tryd.prog 11 #[.agg #[.int .i64 h, .int .u64 l]] w fun e w' =>
    e = .returned (.agg #[.int .i64 h, .int .u64 l]) ∧ ((w.alloc (.cells #[.int .i64 h, .int .u64 l] 29)).alloc (.cells #[.int .i64 h, .int .u64 l] 31)).alloc (.cells #[.int .i64 h, .int .u64 l] 31) = w' := by
  go_enter Tryd.func11, Tryd.ntmps11
  go_wp2
  exact bodyPost_ret (v := .agg #[.int .i64 h, .int .u64 l]) (by simp [results, Tryd.results11, go_sem]) rfl ⟨rfl, rfl⟩
theorem toWide_any (h l : Int) (w : World) : Calls Tryd.prog 11 #[.agg #[.int .i64 h, .int .u64 l]] w fun e w' =>
    e = .returned (.agg #[.int .i64 h, .int .u64 l]) ∧ Below w.heap.size w w' := by
  go_enter Tryd.func11, Tryd.ntmps11
  go_wp2
  exact bodyPost_ret (v := .agg #[.int .i64 h, .int .u64 l]) (by simp [results, Tryd.results11, go_sem]) rfl ⟨rfl, belB⟩
end Go.Proofs.YtobfdggdpaggeaaDoor
namespace Go.Proofs.YtobfdggdpaggeaaDoor
open Go.ChangeShapes Go.WideShapes Go.ChangeAt Go.RowKit
set_option linter.unusedVariables false
set_option maxRecDepth 100000
set_option linter.unusedSimpArgs false
set_option maxHeartbeats 1000000

theorem l02Minus_any (v : Int) (hv : InW v) (w : World) : Calls Tryd.prog 17 #[.agg #[.int .i64 (hiW v), .int .u64 (loW v)]] w fun e w' =>
    e = .returned (.agg #[.int .i64 (hiW (negW v)), .int .u64 (loW (negW v))]) ∧ Below w.heap.size w w' := by
  have hh : In64 (hiW v) := hiW_in hv
  have hl := Lib.hid (not_i64 hh)
  by_cases e : loW v = 0
  · obtain ⟨e1, e2⟩ := neg_zero hv e
    have E1 := Lib.hid e1
    have E2 := Lib.hid e2
    have e0 : (loW v == 0) = true := by simpa using e
    have E := Lib.hid e
    clear e1 e2 e
    go_enter Tryd.func17, Tryd.ntmps17
    go_wp2
    exact bodyPost_ret (v := .agg #[.int .i64 (wrap64 (-hiW v)), .int .u64 (IntKind.u64.wrap (-loW v))]) (by simp [results, Tryd.results17, go_sem]) rfl ⟨by rw [E1.out, E2.out, E.out]; rfl, belB⟩
  · obtain ⟨e1, e2⟩ := neg_some hv e
    have E1 := Lib.hid e1
    have E2 := Lib.hid e2
    have e0 : (loW v == 0) = false := by simpa using e
    clear e1 e2 e
    go_enter Tryd.func17, Tryd.ntmps17
    go_wp2
    exact bodyPost_ret (v := .agg #[.int .i64 (bits BinOp.xor IntKind.i64 (-1) (hiW v)), .int .u64 (IntKind.u64.wrap (-loW v))]) (by simp [results, Tryd.results17, go_sem]) rfl ⟨by rw [E1.out, E2.out, hl.out, wrapU], belB⟩
/-- What is borrowed. -/
def borrowW (x y b : Int) : Int := if x < y + b then 1 else 0
theorem borrow_01 (x y b : Int) : borrowW x y b = 0 ∨ borrowW x y b = 1 := by unfold borrowW; split <;> simp
theorem sub64_law (x y b : Int) (hx : InU x) (hy : InU y) (hb : b = 0 ∨ b = 1) (w : World) :
    (callFunc 38 #[.int .u64 x, .int .u64 y, .int .u64 b]).run Tryd.prog w = .ok (.value (.tuple #[.int .u64 (loW (x - y - b)), .int .u64 (borrowW x y b)])) w := by
  obtain ⟨X, rfl⟩ : ∃ X : Nat, x = X := ⟨x.toNat, by unfold InU at hx; omega⟩
  obtain ⟨Y, rfl⟩ : ∃ Y : Nat, y = Y := ⟨y.toNat, by unfold InU at hy; omega⟩
  obtain ⟨B, rfl, hB⟩ : ∃ B : Nat, b = B ∧ B ≤ 1 := ⟨b.toNat, by omega, by omega⟩
  unfold InU at hx hy
  rw [run_callFunc_extern Tryd.func38 (by kernel_rfl) (by kernel_rfl) (by kernel_rfl) (e := sub64Entry) (by kernel_rfl), run_sub64 X Y B hB]
  simp only [Result.andThen]
  have e1 : (((X + 18446744073709551616 - Y - B) % 18446744073709551616 : Nat) : Int) = loW ((X : Int) - Y - B) := by unfold loW B64; omega
  have e2 : ((if X < Y + B then 1 else 0 : Nat) : Int) = borrowW X Y B := by
    unfold borrowW
    by_cases h : X < Y + B
    · rw [if_pos h, if_pos (by omega)]; rfl
    · rw [if_neg h, if_neg (by omega)]; rfl
  rw [e1, e2]
theorem neg_sub {v : Int} (hv : InW v) : wrap64 (loW (-loW (hiW v) - borrowW 0 (loW v) 0)) = hiW (negW v) ∧ loW (-loW v) = loW (negW v) := by
  rw [wrap64_def]; unfold InW at hv; unfold borrowW negW loW hiW B64
  split <;> split <;> omega
theorem negative_any (v : Int) (hv : InW v) (w : World) : Calls Tryd.prog 25 #[.agg #[.int .i64 (hiW v), .int .u64 (loW v)]] w fun e w' =>
    e = .returned (.agg #[.int .i64 (hiW (negW v)), .int .u64 (loW (negW v))]) ∧ Below w.heap.size w w' := by
  obtain ⟨e1, e2⟩ := neg_sub hv
  have E1 := Lib.hid e1
  have E2 := Lib.hid e2
  clear e1 e2
  go_enter Tryd.func25, Tryd.ntmps25
  go_wp2_with fail
  rw [sub64_law 0 (loW v) 0 (by unfold InU; omega) (loW_in v) (.inl rfl)]
  go_wp2_with fail
  rw [wrapU, sub64_law 0 (loW (hiW v)) (borrowW 0 (loW v) 0) (by unfold InU; omega) (loW_in _) (borrow_01 _ _ _)]
  go_wp2
  exact bodyPost_ret (v := .agg #[.int .i64 (wrap64 (loW (-loW (hiW v) - borrowW 0 (loW v) 0))), .int .u64 (loW (-loW v))]) (by simp [results, Tryd.results25, go_sem]) rfl ⟨by rw [E1.out, E2.out], belB⟩
end Go.Proofs.YtobfdggdpaggeaaDoor
namespace Go.Proofs.YtobfdggdpaggeaaDoor
open Go.ChangeShapes Go.WideShapes Go.ChangeAt Go.RowKit
set_option linter.unusedVariables false
set_option maxRecDepth 100000
set_option linter.unusedSimpArgs false
set_option maxHeartbeats 1000000

set_option maxHeartbeats 1000000 in
theorem Mul64_nat (x y : Nat) (hx : x < 18446744073709551616) (hy : y < 18446744073709551616) (w : World) :
    Calls Tryd.prog 59 #[.int .u64 x, .int .u64 y] w fun e w' => e = .returned (.tuple #[.int .u64 ((x * y / 18446744073709551616 : Nat) : Int), .int .u64 ((x * y % 18446744073709551616 : Nat) : Int)]) ∧ w = w' := by
  obtain ⟨bd, bt, bw, hhi⟩ := Lib.mul64_hi x y hx hy
  have ba := Lib.half_mul_le (a := x / 4294967296) (b := y / 4294967296) (by omega) (by omega)
  have bb := Lib.half_mul_le (a := x / 4294967296) (b := y % 4294967296) (by omega) (by omega)
  have bc := Lib.half_mul_le (a := x % 4294967296) (b := y / 4294967296) (by omega) (by omega)
  have ba' : x / 4294967296 * (y / 4294967296) < 18446744073709551616 := by omega
  have bb' : x / 4294967296 * (y % 4294967296) < 18446744073709551616 := by omega
  have bc' : x % 4294967296 * (y / 4294967296) < 18446744073709551616 := by omega
  have bh1 : x / 4294967296 * (y / 4294967296) + (x / 4294967296 * (y % 4294967296) + x % 4294967296 * (y % 4294967296) / 4294967296) / 4294967296 < 18446744073709551616 := by omega
  have bh : x / 4294967296 * (y / 4294967296) + (x / 4294967296 * (y % 4294967296) + x % 4294967296 * (y % 4294967296) / 4294967296) / 4294967296 + ((x / 4294967296 * (y % 4294967296) + x % 4294967296 * (y % 4294967296) / 4294967296) % 4294967296 + x % 4294967296 * (y / 4294967296)) / 4294967296 < 18446744073709551616 := by omega
  go_enter Tryd.func59, Tryd.ntmps59
  go_wp2
  simp only [Mul64.maskN x hx, Mul64.maskN y hy, Mul64.divN, Mul64.mulN, Mul64.addN, Mul64.wrapN _ bd, Mul64.wrapN _ bb', Mul64.wrapN _ bt, Mul64.maskN _ bt, Mul64.wrapN _ bc', Mul64.wrapN _ bw, Mul64.wrapN _ ba', Mul64.wrapN _ bh1, Mul64.wrapN _ bh, Mul64.wrapM (x * y)]
  rw [hhi]
  go_ret2
  exact ⟨rfl, rfl⟩
theorem Mul64_any (x y : Int) (hx : InU x) (hy : InU y) (w : World) :
    Calls Tryd.prog 59 #[.int .u64 x, .int .u64 y] w fun e w' => e = .returned (.tuple #[.int .u64 (hiW (x * y)), .int .u64 (loW (x * y))]) ∧ w = w' := by
  obtain ⟨X, rfl⟩ : ∃ X : Nat, x = X := ⟨x.toNat, by unfold InU at hx; omega⟩
  obtain ⟨Y, rfl⟩ : ∃ Y : Nat, y = Y := ⟨y.toNat, by unfold InU at hy; omega⟩
  unfold InU at hx hy
  refine (Mul64_nat X Y (by omega) (by omega) w).mono fun e w' ⟨he, hw⟩ => ⟨?_, hw⟩
  rw [he]
  rfl
end Go.Proofs.YtobfdggdpaggeaaDoor
namespace Go.Proofs.YtobfdggdpaggeaaDoor
open Go.ChangeShapes Go.WideShapes Go.ChangeAt Go.RowKit
set_option linter.unusedVariables false
set_option maxRecDepth 100000
set_option linter.unusedSimpArgs false
set_option maxHeartbeats 1000000

end Go.Proofs.YtobfdggdpaggeaaDoor
