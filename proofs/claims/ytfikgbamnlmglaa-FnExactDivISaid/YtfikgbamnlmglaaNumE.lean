/- Plain arithmetic of long division, bit by bit. Conditions: as each lemma says. -/
import Derived.Test.YtfikgbamnlmglaaNumD
namespace Go.Proofs.Ytfikgbamnlmglaa
open Go.RowKit
set_option linter.unusedVariables false
set_option maxRecDepth 100000

/-- What has been taken of the dividend behind t bits: R 2^t and the t highest bits of l. -/
def ldN (R l : Int) (t : Nat) : Int := R * 2 ^ t + l / 2 ^ (64 - t)
def ldQ (R l d : Int) (t : Nat) : Int := ldN R l t / d
def ldR (R l d : Int) (t : Nat) : Int := ldN R l t % d
def ldBit (l : Int) (t : Nat) : Int := l / 2 ^ (63 - t) % 2
theorem ldN_zero {R l : Int} (l0 : 0 ≤ l) (l1 : l < B64) : ldN R l 0 = R := by
  unfold ldN
  have : l / 2 ^ (64 - 0) = 0 := Int.ediv_eq_zero_of_lt l0 (by unfold B64 at l1; simpa using l1)
  rw [this]; simp
theorem ldN_end (R l : Int) : ldN R l 64 = R * B64 + l := by
  unfold ldN; simp [B64]
theorem ldN_succ {R l : Int} {t : Nat} (ht : t < 64) : ldN R l (t + 1) = 2 * ldN R l t + ldBit l t := by
  unfold ldN ldBit
  have e1 : (2 : Int) ^ (64 - t) = 2 ^ (63 - t) * 2 := by rw [show 64 - t = (63 - t) + 1 by omega]; exact Int.pow_succ _ _
  have e2 : l / 2 ^ (64 - t) = l / 2 ^ (63 - t) / 2 := by
    rw [e1, Int.ediv_ediv_of_nonneg (by have := pow_pos' (63 - t); omega)]
  have e3 : 64 - (t + 1) = 63 - t := by omega
  rw [e2, e3, Int.pow_succ, ← Int.mul_assoc]
  generalize R * 2 ^ t = A
  generalize l / 2 ^ (63 - t) = B
  omega
theorem ldBit_in (l : Int) (t : Nat) : 0 ≤ ldBit l t ∧ ldBit l t ≤ 1 := by unfold ldBit; omega
theorem ldR_in {R l d : Int} (hd : 0 < d) (t : Nat) : 0 ≤ ldR R l d t ∧ ldR R l d t < d :=
  ⟨Int.emod_nonneg _ (by omega), Int.emod_lt_of_pos _ hd⟩
theorem ldQ_in {R l d : Int} (R0 : 0 ≤ R) (Rd : R < d) (l0 : 0 ≤ l) (l1 : l < B64) {t : Nat} (ht : t ≤ 64) : 0 ≤ ldQ R l d t ∧ ldQ R l d t < 2 ^ t := by
  have hp := pow_pos' t
  have hq := pow_pos' (64 - t)
  have hl : 0 ≤ l / 2 ^ (64 - t) := Int.ediv_nonneg l0 (by omega)
  have hl2 : l / 2 ^ (64 - t) < 2 ^ t := Int.ediv_lt_of_lt_mul hq (by rw [← Int.pow_add, show t + (64 - t) = 64 by omega]; unfold B64 at l1; simpa using l1)
  have hR : R * 2 ^ t ≤ (d - 1) * 2 ^ t := Int.mul_le_mul_of_nonneg_right (by omega) (by omega)
  have hR0 : 0 ≤ R * 2 ^ t := Int.mul_nonneg R0 (by omega)
  unfold ldQ ldN
  refine ⟨Int.ediv_nonneg (by omega) (by omega), Int.ediv_lt_of_lt_mul (by omega) ?_⟩
  rw [Int.sub_mul, Int.one_mul] at hR
  rw [Int.mul_comm (2 ^ t) d]
  omega
theorem ld_yes {R l d : Int} (hd : 0 < d) {t : Nat} (ht : t < 64) (c : d ≤ 2 * ldR R l d t + ldBit l t) :
    ldR R l d (t + 1) = 2 * ldR R l d t + ldBit l t - d ∧ ldQ R l d (t + 1) = 2 * ldQ R l d t + 1 := by
  have r := ldR_in (R := R) (l := l) hd t
  have b := ldBit_in l t
  have e := Int.mul_ediv_add_emod (ldN R l t) d
  have n := ldN_succ (R := R) (l := l) ht
  have k : ldN R l (t + 1) = d * (2 * ldQ R l d t + 1) + (2 * ldR R l d t + ldBit l t - d) := by
    rw [n, ← e]
    show 2 * (d * ldQ R l d t + ldR R l d t) + ldBit l t = _
    rw [Int.mul_add d, Int.mul_one, Int.mul_add, ← Int.mul_assoc, ← Int.mul_assoc, Int.mul_comm d 2]
    omega
  constructor
  · show ldN R l (t + 1) % d = _
    rw [k, Int.add_comm, Int.add_mul_emod_self_left, Int.emod_eq_of_lt (by omega) (by omega)]
  · show ldN R l (t + 1) / d = _
    rw [k, Int.add_comm, Int.add_mul_ediv_left _ _ (by omega), Int.ediv_eq_zero_of_lt (by omega) (by omega), Int.zero_add]
theorem ld_no {R l d : Int} (hd : 0 < d) {t : Nat} (ht : t < 64) (c : ¬ d ≤ 2 * ldR R l d t + ldBit l t) :
    ldR R l d (t + 1) = 2 * ldR R l d t + ldBit l t ∧ ldQ R l d (t + 1) = 2 * ldQ R l d t := by
  have r := ldR_in (R := R) (l := l) hd t
  have b := ldBit_in l t
  have e := Int.mul_ediv_add_emod (ldN R l t) d
  have n := ldN_succ (R := R) (l := l) ht
  have k : ldN R l (t + 1) = d * (2 * ldQ R l d t) + (2 * ldR R l d t + ldBit l t) := by
    rw [n, ← e]
    show 2 * (d * ldQ R l d t + ldR R l d t) + ldBit l t = _
    rw [Int.mul_add, ← Int.mul_assoc, ← Int.mul_assoc, Int.mul_comm d 2]
    omega
  constructor
  · show ldN R l (t + 1) % d = _
    rw [k, Int.add_comm, Int.add_mul_emod_self_left, Int.emod_eq_of_lt (by omega) (by omega)]
  · show ldN R l (t + 1) / d = _
    rw [k, Int.add_comm, Int.add_mul_ediv_left _ _ (by omega), Int.ediv_eq_zero_of_lt (by omega) (by omega), Int.zero_add]
/-- The two words by which a bit is taken in. -/
theorem and_one {x : Int} (h : InU x) : bits .and .u64 x 1 = x % 2 := by
  obtain ⟨X, rfl⟩ : ∃ X : Nat, x = X := ⟨x.toNat, by unfold InU at h; omega⟩
  unfold InU at h
  have := bits_and_u64_nat X 1 (by omega) (by omega)
  simp only [Nat.and_one_is_mod] at this
  rw [show ((1 : Int)) = ((1 : Nat) : Int) from rfl, this]; omega
theorem or_bit {x b : Int} (h0 : 0 ≤ x) (h1 : 2 * x + b < B64) (b0 : 0 ≤ b) (b1 : b ≤ 1) : bits .or .u64 (2 * x) b = 2 * x + b := by
  have := (or_add (k := 1) h0 b0 (by omega) (by simpa using h1)).1
  simpa using this
end Go.Proofs.Ytfikgbamnlmglaa
