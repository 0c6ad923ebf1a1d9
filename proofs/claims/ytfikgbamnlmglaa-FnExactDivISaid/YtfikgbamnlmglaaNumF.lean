/- Plain arithmetic of the division of a number of two digits by one, to base 2^32, with a guessed digit. Conditions: as each lemma says. -/
import Derived.Test.YtfikgbamnlmglaaNumE
namespace Go.Proofs.Ytfikgbamnlmglaa
open Go.RowKit
set_option linter.unusedVariables false
set_option maxRecDepth 100000

/-- A divisor y of halves a and b that is at least 2^63. -/
structure Normal (y a b : Int) : Prop where
  y : y = a * 4294967296 + b
  a0 : 2147483648 ≤ a
  a1 : a < 4294967296
  b0 : 0 ≤ b
  b1 : b < 4294967296

/-- The digit. -/
def digQ (u c y : Int) : Int := (u * 4294967296 + c) / y
/-- What is left. -/
def digR (u c y : Int) : Int := (u * 4294967296 + c) % y

theorem dig_in {u c y : Int} (u0 : 0 ≤ u) (u1 : u < y) (c0 : 0 ≤ c) (c1 : c < 4294967296) :
    0 ≤ digQ u c y ∧ digQ u c y < 4294967296 ∧ 0 ≤ digR u c y ∧ digR u c y < y ∧ digQ u c y * y + digR u c y = u * 4294967296 + c := by
  have hy : 0 < y := by omega
  refine ⟨Int.ediv_nonneg (by omega) (by omega), Int.ediv_lt_of_lt_mul hy (by omega), Int.emod_nonneg _ (by omega), Int.emod_lt_of_pos _ hy, ?_⟩
  unfold digQ digR
  rw [Int.mul_comm]
  exact Int.mul_ediv_add_emod _ _

/-- What the guess keeps: the digit is not greater. -/
structure Guess (u c y a b q r : Int) : Prop where
  sum : q * a + r = u
  r0 : 0 ≤ r
  q0 : 0 ≤ q
  q1 : q ≤ 4294967297
  le : digQ u c y ≤ q

theorem guess_start {u c y a b : Int} (n : Normal y a b) (u0 : 0 ≤ u) (u1 : u < y) (c0 : 0 ≤ c) (c1 : c < 4294967296) :
    Guess u c y a b (u / a) (u % a) ∧ u % a < 4294967296 := by
  obtain ⟨hy, a0, a1, b0, b1⟩ := n
  have ha : 0 < a := by omega
  have r0 := Int.emod_nonneg u (show a ≠ 0 by omega)
  have r1 := Int.emod_lt_of_pos u ha
  have e := Int.mul_ediv_add_emod u a
  refine ⟨⟨by rw [Int.mul_comm]; exact e, r0, Int.ediv_nonneg u0 (by omega), ?_, ?_⟩, by omega⟩
  · have : u / a < 4294967298 := Int.ediv_lt_of_lt_mul ha (by omega)
    omega
  · obtain ⟨q0, q1, s0, s1, es⟩ := dig_in u0 u1 c0 c1
    apply Int.le_ediv_of_mul_le ha
    have k : digQ u c y * y = digQ u c y * a * 4294967296 + digQ u c y * b := by rw [hy, Int.mul_add, ← Int.mul_assoc]
    have k2 : 0 ≤ digQ u c y * b := Int.mul_nonneg q0 b0
    omega

/-- A guess that is seen to be too great. -/
theorem guess_more {u c y a b q r : Int} (n : Normal y a b) (u0 : 0 ≤ u) (u1 : u < y) (c0 : 0 ≤ c) (c1 : c < 4294967296) (g : Guess u c y a b q r)
    (t : 4294967296 ≤ q ∨ 4294967296 * r + c < q * b) : Guess u c y a b (q - 1) (r + a) ∧ 1 ≤ q := by
  obtain ⟨hy, a0, a1, b0, b1⟩ := n
  obtain ⟨sum, r0, q0, q1, le⟩ := g
  obtain ⟨d0, d1, s0, s1, es⟩ := dig_in u0 u1 c0 c1
  have lt : digQ u c y < q := by
    rcases t with t | t
    · omega
    · apply Int.ediv_lt_of_lt_mul (by omega)
      have k : q * y = q * a * 4294967296 + q * b := by rw [hy, Int.mul_add, ← Int.mul_assoc]
      omega
  refine ⟨⟨?_, by omega, by omega, by omega, by omega⟩, by omega⟩
  rw [Int.sub_mul, Int.one_mul]; omega

/-- A guess that is not seen to be too great is the digit. -/
theorem guess_right {u c y a b q r : Int} (n : Normal y a b) (u0 : 0 ≤ u) (u1 : u < y) (c0 : 0 ≤ c) (c1 : c < 4294967296) (g : Guess u c y a b q r)
    (t : q * b ≤ 4294967296 * r + c) : q = digQ u c y := by
  obtain ⟨hy, a0, a1, b0, b1⟩ := n
  obtain ⟨sum, r0, q0, q1, le⟩ := g
  have k : q * y = q * a * 4294967296 + q * b := by rw [hy, Int.mul_add, ← Int.mul_assoc]
  have : q ≤ digQ u c y := Int.le_ediv_of_mul_le (by omega) (by omega)
  omega
/-- So is one behind which so much is left that nothing can be seen. -/
theorem guess_break {u c y a b q r : Int} (n : Normal y a b) (u0 : 0 ≤ u) (u1 : u < y) (c0 : 0 ≤ c) (c1 : c < 4294967296) (g : Guess u c y a b q r)
    (hq : q ≤ 4294967296) (t : 4294967296 ≤ r) : q = digQ u c y := by
  have n' := n
  obtain ⟨hy, a0, a1, b0, b1⟩ := n'
  refine guess_right n u0 u1 c0 c1 g ?_
  have : q * b ≤ 4294967296 * b := Int.mul_le_mul_of_nonneg_right hq b0
  omega
/-- What is left, by words that wrap. -/
theorem dig_rest {u c y : Int} (u0 : 0 ≤ u) (u1 : u < y) (c0 : 0 ≤ c) (c1 : c < 4294967296) (y1 : y ≤ 18446744073709551616) :
    loW (loW (loW (u * 4294967296) + c) - loW (digQ u c y * y)) = digR u c y := by
  obtain ⟨d0, d1, s0, s1, es⟩ := dig_in u0 u1 c0 c1
  unfold loW B64
  generalize digQ u c y * y = P at *
  omega

/-- The division by the normalized divisor, digit by digit. -/
theorem two_digits {N y u c e : Int} (u0 : 0 ≤ u) (u1 : u < y) (c0 : 0 ≤ c) (c1 : c < 4294967296) (e0 : 0 ≤ e) (e1 : e < 4294967296)
    (hN : N = u * 18446744073709551616 + c * 4294967296 + e) :
    N / y = digQ u c y * 4294967296 + digQ (digR u c y) e y ∧ N % y = digR (digR u c y) e y := by
  obtain ⟨d0, d1, s0, s1, es⟩ := dig_in u0 u1 c0 c1
  obtain ⟨g0, g1, t0, t1, et⟩ := dig_in s0 s1 e0 e1
  have k : N = digR (digR u c y) e y + y * (digQ u c y * 4294967296 + digQ (digR u c y) e y) := by
    rw [Int.mul_comm y, Int.add_mul]
    have : digQ u c y * 4294967296 * y = digQ u c y * y * 4294967296 := by rw [Int.mul_assoc, Int.mul_comm 4294967296 y, ← Int.mul_assoc]
    omega
  have hy : 0 < y := by omega
  constructor
  · rw [k, Int.add_mul_ediv_left _ _ (by omega), Int.ediv_eq_zero_of_lt t0 t1, Int.zero_add]
  · rw [k, Int.add_mul_emod_self_left, Int.emod_eq_of_lt t0 t1]

/-- A number of two halves and its divisor, both times 2^s. -/
theorem scaled {hi lo d : Int} {k : Nat} (hk : k ≤ 64) (h0 : 0 ≤ hi) (h1 : hi < d) (l0 : 0 ≤ lo) (l1 : lo < B64) (hy : d * 2 ^ k < B64 + 1) :
    (hi * B64 + lo) * 2 ^ k = (hi * 2 ^ k + lo / 2 ^ (64 - k)) * B64 + loW (lo * 2 ^ k) ∧ hi * 2 ^ k + lo / 2 ^ (64 - k) < d * 2 ^ k ∧
      0 ≤ hi * 2 ^ k ∧ 0 ≤ lo / 2 ^ (64 - k) ∧ lo / 2 ^ (64 - k) < 2 ^ k := by
  have hp := pow_pos' k
  have hq := pow_pos' (64 - k)
  have hpq : (2 : Int) ^ (64 - k) * 2 ^ k = B64 := by rw [← Int.pow_add, show 64 - k + k = 64 by omega]; rfl
  have s0 : 0 ≤ lo / 2 ^ (64 - k) := Int.ediv_nonneg l0 (by omega)
  have s1 : lo / 2 ^ (64 - k) < 2 ^ k := Int.ediv_lt_of_lt_mul hq (by rw [Int.mul_comm, hpq]; exact l1)
  have hm : hi * 2 ^ k + 2 ^ k ≤ d * 2 ^ k := by
    have : (hi + 1) * 2 ^ k ≤ d * 2 ^ k := Int.mul_le_mul_of_nonneg_right (by omega) (by omega)
    rwa [Int.add_mul, Int.one_mul] at this
  refine ⟨?_, by omega, Int.mul_nonneg h0 (by omega), s0, s1⟩
  have e : lo * 2 ^ k = lo / 2 ^ (64 - k) * B64 + loW (lo * 2 ^ k) := by
    have q : lo * 2 ^ k / B64 = lo / 2 ^ (64 - k) := by
      rw [← hpq, Int.mul_ediv_mul_of_pos_left _ _ hp]
    have := Int.mul_ediv_add_emod (lo * 2 ^ k) B64
    rw [q, Int.mul_comm] at this
    unfold loW; omega
  rw [Int.add_mul, Int.add_mul (hi * 2 ^ k)]
  have : hi * B64 * 2 ^ k = hi * 2 ^ k * B64 := by rw [Int.mul_assoc, Int.mul_comm B64, ← Int.mul_assoc]
  omega
end Go.Proofs.Ytfikgbamnlmglaa
