/- The contract of math/bits.Div64. Conditions: uint64 numbers, the high half less than the divisor. -/
import Derived.Test.YtfikgbamnlmglaaWideI
import Derived.Test.YtfikgbamnlmglaaNumF
import Derived.Deep.QuietTactic
import Derived.BigQuiet
import Derived.Outline
import Derived.Deep.LoopGhost
namespace Go.Proofs.Ytfikgbamnlmglaa
open Go.ChangeShapes Go.WideShapes Go.ChangeAt Go.RowKit
set_option linter.unusedVariables false
set_option maxRecDepth 100000

theorem below_drewN {w : World} (n : Nat) : Below w.heap.size w (w.drewN n) := ⟨rfl, rfl, rfl, Nat.le_refl _, fun _ _ => rfl⟩
theorem Div64_small (lo d : Int) (hl : InU lo) (hd : InU d) (d0 : 1 ≤ d) (w : World) : Calls Try.prog 166 #[.int .u64 0, .int .u64 lo, .int .u64 d] w fun e w' =>
    e = .returned (.tuple #[.int .u64 (lo / d), .int .u64 (lo % d)]) ∧ ∃ n, w' = w.drewN n := by
  have l0 : 0 ≤ lo := hl.1
  have l1 : lo ≤ 18446744073709551615 := hl.2
  have d1 : d ≤ 18446744073709551615 := hd.2
  have z0 : (d == 0) = false := by simp; omega
  go_enter Try.func166, Try.ntmps166
  go_wp2_with fail
  go_quiet (fail)
  go_wp2
  go_ret2
  exact ⟨rfl, _, rfl⟩

/-- The numbers of the division, behind the shift by k: what each of the function's words is. -/
structure Shifted (hi lo d : Int) (k : Nat) (y a b u m c e : Int) : Prop where
  wy : IntKind.u64.wrap (d * 2 ^ k) = y
  ey : y = d * 2 ^ k
  wa : y / 4294967296 = a
  wb : bits .and .u64 y 4294967295 = b
  wu : bits .or .u64 (IntKind.u64.wrap (hi * 2 ^ k)) (lo / 2 ^ (64 - k)) = u
  wm : IntKind.u64.wrap (lo * 2 ^ k) = m
  wc : m / 4294967296 = c
  we : bits .and .u64 m 4294967295 = e
  nm : Normal y a b
  u0 : 0 ≤ u
  u1 : u < y
  y1 : y ≤ 18446744073709551615
  c0 : 0 ≤ c
  c1 : c < 4294967296
  e0 : 0 ≤ e
  e1 : e < 4294967296
  m0 : 0 ≤ m
  m1 : m ≤ 18446744073709551615
  num : (hi * B64 + lo) * 2 ^ k = u * 18446744073709551616 + c * 4294967296 + e
theorem and_mask {x : Int} (h : InU x) : bits .and .u64 x 4294967295 = x % 4294967296 := by
  obtain ⟨X, rfl⟩ : ∃ X : Nat, x = X := ⟨x.toNat, by unfold InU at h; omega⟩
  unfold InU at h
  exact Mul64.maskN X (by omega)
theorem shifted {hi lo d : Int} {n : Nat} (h0 : 0 ≤ hi) (h1 : hi < d) (l0 : 0 ≤ lo) (l1 : lo ≤ 18446744073709551615) (n63 : n ≤ 63) (d0 : 2 ^ n ≤ d) (d1 : d < 2 ^ (n + 1)) :
    ∃ y a b u m c e, Shifted hi lo d (63 - n) y a b u m c e := by
  have hp := pow_pos' (63 - n)
  have p63 : (2 : Int) ^ n * 2 ^ (63 - n) = 9223372036854775808 := by rw [← Int.pow_add, show n + (63 - n) = 63 by omega]; rfl
  have p64 : (2 : Int) ^ (n + 1) * 2 ^ (63 - n) = 18446744073709551616 := by rw [← Int.pow_add, show n + 1 + (63 - n) = 64 by omega]; rfl
  have y0 : 9223372036854775808 ≤ d * 2 ^ (63 - n) := by
    rw [← p63]; exact Int.mul_le_mul_of_nonneg_right d0 (by omega)
  have y1 : d * 2 ^ (63 - n) < 18446744073709551616 := by
    rw [← p64]; exact Int.mul_lt_mul_of_pos_right d1 hp
  obtain ⟨num, ub, hs0, r0, r1⟩ := scaled (k := 63 - n) (by omega) h0 h1 l0 (show lo < B64 by unfold B64; omega) (by unfold B64; omega)
  have ml := loW_in (lo * 2 ^ (63 - n))
  have orx : bits .or .u64 (IntKind.u64.wrap (hi * 2 ^ (63 - n))) (lo / 2 ^ (64 - (63 - n))) = hi * 2 ^ (63 - n) + lo / 2 ^ (64 - (63 - n)) := by
    rw [wrapU, loW_self (by unfold InU; omega), Int.mul_comm hi]
    rw [Int.mul_comm hi] at ub
    exact (or_add h0 r0 r1 (by unfold B64; omega)).1
  have yy := Int.mul_ediv_add_emod (d * 2 ^ (63 - n)) 4294967296
  have mm := Int.mul_ediv_add_emod (loW (lo * 2 ^ (63 - n))) 4294967296
  refine ⟨_, _, _, _, _, _, _, ⟨by rw [wrapU]; exact loW_self (by unfold InU; omega), rfl, rfl, and_mask (by unfold InU; omega), orx, wrapU _, rfl, and_mask (loW_in _), ⟨?_, ?_, ?_, ?_, ?_⟩, ?_, ub, ?_, ?_, ?_, ?_, ?_, ml.1, ml.2, ?_⟩⟩
  all_goals first | omega | (rw [num]; unfold B64; omega)

/-- The quotient and the rest out of the digits. -/
theorem div_end {hi lo d y a b u m c e : Int} {k : Nat} (s : Shifted hi lo d k y a b u m c e) (hd : 0 < d) :
    digQ u c y * 4294967296 + digQ (digR u c y) e y = (hi * B64 + lo) / d ∧ digR (digR u c y) e y / 2 ^ k = (hi * B64 + lo) % d := by
  obtain ⟨q, r⟩ := two_digits s.u0 s.u1 s.c0 s.c1 s.e0 s.e1 s.num
  have hp := pow_pos' k
  rw [s.ey, Int.mul_ediv_mul_of_pos_left _ _ hp] at q
  rw [s.ey, Int.mul_comm (hi * B64 + lo), Int.mul_comm d, Int.mul_emod_mul_of_pos _ _ hp] at r
  rw [s.ey]
  rw [Int.mul_comm d] at *
  refine ⟨q.symm, ?_⟩
  rw [← r, Int.mul_ediv_cancel_left _ (by omega)]
end Go.Proofs.Ytfikgbamnlmglaa
