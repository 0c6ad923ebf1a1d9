/- Numbers: the root found bit by bit is the root. Conditions: the number is below 2^128. -/
import Derived.Test.YtfikgbamnlmglaaNumH
namespace Go.Proofs.Ytfikgbamnlmglaa
set_option linter.unusedVariables false
set_option maxRecDepth 100000

theorem rootFrom_spec (m : Nat) : ∀ (s r : Nat), r * r ≤ m → m < (r + 2 ^ s) * (r + 2 ^ s) → rootFrom m s r * rootFrom m s r ≤ m ∧ m < (rootFrom m s r + 1) * (rootFrom m s r + 1) := by
  intro s
  induction s with
  | zero => intro r h k; exact ⟨h, k⟩
  | succ s ih =>
    intro r h k
    by_cases c : (r + 2 ^ s) * (r + 2 ^ s) ≤ m
    · rw [← rootFrom_yes c]
      have e : r + 2 ^ (s + 1) = r + 2 ^ s + 2 ^ s := by rw [Nat.pow_succ]; omega
      rw [e] at k
      exact ih _ c k
    · rw [← rootFrom_no c]
      exact ih _ h (by omega)
theorem rootW_spec {m : Nat} (h : m < 340282366920938463463374607431768211456) : rootW m * rootW m ≤ m ∧ m < (rootW m + 1) * (rootW m + 1) :=
  rootFrom_spec m 64 0 (by omega) (by simpa using h)
theorem root_prod {a b : Int} (ha : In64 a) (hb : In64 b) (a0 : 0 ≤ a) (b0 : 0 ≤ b) : ((rootW (a * b).toNat : Nat) : Int) ≤ 9223372036854775807 := by
  unfold In64 at *
  have h : a * b ≤ 9223372036854775807 * 9223372036854775807 := Int.mul_le_mul ha.2 hb.2 b0 (by omega)
  obtain ⟨k, _⟩ := rootW_spec (m := (a * b).toNat) (by omega)
  by_cases c : rootW (a * b).toNat ≤ 9223372036854775807
  · omega
  · have : 9223372036854775808 * 9223372036854775808 ≤ rootW (a * b).toNat * rootW (a * b).toNat := Nat.mul_le_mul (by omega) (by omega)
    omega
end Go.Proofs.Ytfikgbamnlmglaa
