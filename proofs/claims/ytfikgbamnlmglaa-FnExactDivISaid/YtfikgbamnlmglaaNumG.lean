/- Plain arithmetic of quotients of wide integers, by halves and by signs. Conditions: as each lemma says. -/
import Derived.Test.YtfikgbamnlmglaaNumF
namespace Go.Proofs.Ytfikgbamnlmglaa
open Go.RowKit
set_option linter.unusedVariables false
set_option maxRecDepth 100000

/-- A number of two halves, divided. -/
theorem div_halves {m d : Int} (m0 : 0 ≤ m) (m1 : m < 340282366920938463463374607431768211456) (d0 : 1 ≤ d) :
    hiW (m / d) = hiW m / d ∧ loW (m / d) = (hiW m % d * B64 + loW m) / d ∧ m % d = (hiW m % d * B64 + loW m) % d ∧
      (0 ≤ (hiW m % d * B64 + loW m) / d ∧ (hiW m % d * B64 + loW m) / d < B64) ∧ 0 ≤ hiW m ∧ hiW m < B64 := by
  have e := val_hl m
  have l := loW_in m
  have h0 : 0 ≤ hiW m := by unfold hiW B64; omega
  have h1 : hiW m < B64 := by unfold hiW B64; omega
  have r0 := Int.emod_nonneg (hiW m) (show d ≠ 0 by omega)
  have r1 := Int.emod_lt_of_pos (hiW m) (show 0 < d by omega)
  have q := Int.mul_ediv_add_emod (hiW m) d
  have hb : (0 : Int) < B64 := by unfold B64; omega
  have n0 : 0 ≤ hiW m % d * B64 + loW m := by have := Int.mul_nonneg r0 (show 0 ≤ B64 by omega); omega
  have n1 : (hiW m % d * B64 + loW m) / d < B64 := by
    apply Int.ediv_lt_of_lt_mul (by omega)
    have : hiW m % d * B64 ≤ (d - 1) * B64 := Int.mul_le_mul_of_nonneg_right (by omega) (by omega)
    rw [Int.sub_mul, Int.one_mul] at this
    rw [Int.mul_comm B64 d]
    have : loW m < B64 := by unfold B64; omega
    omega
  have n2 : 0 ≤ (hiW m % d * B64 + loW m) / d := Int.ediv_nonneg n0 (by omega)
  have k : m = hiW m % d * B64 + loW m + d * (hiW m / d * B64) := by
    have : d * (hiW m / d * B64) = d * (hiW m / d) * B64 := by rw [Int.mul_assoc]
    have h2 : (d * (hiW m / d) + hiW m % d) * B64 = hiW m * B64 := by rw [q]
    rw [Int.add_mul] at h2
    omega
  have kd : m / d = (hiW m % d * B64 + loW m) / d + hiW m / d * B64 := by
    conv => lhs; rw [k]
    exact Int.add_mul_ediv_left _ _ (by omega)
  have km : m % d = (hiW m % d * B64 + loW m) % d := by
    conv => lhs; rw [k]
    exact Int.add_mul_emod_self_left _ _ _
  refine ⟨?_, ?_, km, ⟨n2, n1⟩, h0, h1⟩
  · show m / d / B64 = _
    rw [kd, Int.add_mul_ediv_right _ _ (by omega), Int.ediv_eq_zero_of_lt n2 n1]; exact Int.zero_add _
  · show m / d % B64 = _
    rw [kd, Int.add_mul_emod_self_right, Int.emod_eq_of_lt n2 n1]

theorem quo_in {v d : Int} (hv : InW v) (d0 : 1 ≤ d) : InW (v / d) := by
  unfold InW at *
  constructor
  · apply Int.le_ediv_of_mul_le (by omega)
    have : (-170141183460469231731687303715884105728 : Int) * d ≤ -170141183460469231731687303715884105728 * 1 := Int.mul_le_mul_of_nonpos_left (by omega) (by omega)
    omega
  · by_cases h : 0 ≤ v
    · have := Int.ediv_le_self d h; omega
    · have := Int.ediv_neg_of_neg_of_pos (show v < 0 by omega) (show 0 < d by omega); omega
theorem rem_in {v d : Int} (d0 : 1 ≤ d) : 0 ≤ v % d ∧ v % d < d := ⟨Int.emod_nonneg _ (by omega), Int.emod_lt_of_pos _ (by omega)⟩

/-- A quotient and a rest are known by their sum. -/
theorem div_known {v d q r : Int} (h : v = r + d * q) (r0 : 0 ≤ r) (r1 : r < d) : q = v / d ∧ r = v % d := by
  subst h
  rw [Int.add_mul_ediv_left _ _ (by omega), Int.ediv_eq_zero_of_lt r0 r1, Int.add_mul_emod_self_left, Int.emod_eq_of_lt r0 r1]
  omega
/-- By the complement. -/
theorem div_compl {v d : Int} (d0 : 1 ≤ d) : -1 - (-1 - v) / d = v / d ∧ d - 1 - (-1 - v) % d = v % d := by
  have e := Int.mul_ediv_add_emod (-1 - v) d
  have r := rem_in (v := -1 - v) d0
  exact div_known (by rw [Int.mul_sub]; omega) (by omega) (by omega)
/-- By the absolute value. -/
theorem div_abs {v d : Int} (d0 : 1 ≤ d) : (-v % d = 0 → -(-v / d) = v / d ∧ v % d = 0) ∧ (¬ -v % d = 0 → -(-v / d) - 1 = v / d ∧ d - -v % d = v % d) := by
  have e := Int.mul_ediv_add_emod (-v) d
  have r := rem_in (v := -v) d0
  constructor
  · intro z
    have := div_known (v := v) (d := d) (q := -(-v / d)) (r := 0) (by rw [Int.mul_neg]; omega) (by omega) (by omega)
    exact ⟨this.1, this.2.symm⟩
  · intro z
    exact div_known (by rw [Int.mul_sub, Int.mul_neg]; omega) (by omega) (by omega)

/-- The absolute value of a wide integer, by its halves. -/
theorem abs_neg {v : Int} (hv : InW v) (h : v < 0) : loW (hiW (negW v)) = hiW (-v) ∧ loW (negW v) = loW (-v) := by
  unfold InW at hv; unfold negW hiW loW B64; split <;> omega
theorem abs_pos {v : Int} (hv : InW v) (h : ¬ v < 0) : loW (hiW v) = hiW v ∧ 0 ≤ hiW v := by
  unfold InW at hv; unfold hiW loW B64; omega
theorem hi_neg_iff {v : Int} : (hiW v < 0) ↔ v < 0 := by unfold hiW B64; omega
/-- The quotient, the rest, and whether they exist. -/
def quoW (v d : Int) : Int := if 1 ≤ d then v / d else 0
def remW (v d : Int) : Int := if 1 ≤ d then v % d else 0
def okD (d : Int) : Bool := decide (1 ≤ d)
end Go.Proofs.Ytfikgbamnlmglaa
