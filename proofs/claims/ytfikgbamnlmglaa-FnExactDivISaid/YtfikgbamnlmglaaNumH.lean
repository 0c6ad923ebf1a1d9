/- Plain arithmetic of square roots, bit by bit. Conditions: as each lemma says. -/
import Derived.Test.YtfikgbamnlmglaaNumG
namespace Go.Proofs.Ytfikgbamnlmglaa
open Go.RowKit
set_option linter.unusedVariables false
set_option maxRecDepth 100000

/-- The root of m as far as the t lowest bits go on from r. -/
def rootFrom (m : Nat) : Nat → Nat → Nat
  | 0, r => r
  | s + 1, r => rootFrom m s (if (r + 2 ^ s) * (r + 2 ^ s) ≤ m then r + 2 ^ s else r)
/-- The square root, rounded down, of a number below 2^128. -/
def rootW (m : Nat) : Nat := rootFrom m 64 0
theorem rootFrom_yes {m s r : Nat} (h : (r + 2 ^ s) * (r + 2 ^ s) ≤ m) : rootFrom m s (r + 2 ^ s) = rootFrom m (s + 1) r := by
  show _ = rootFrom m s _
  rw [if_pos h]
theorem rootFrom_no {m s r : Nat} (h : ¬ (r + 2 ^ s) * (r + 2 ^ s) ≤ m) : rootFrom m s r = rootFrom m (s + 1) r := by
  show _ = rootFrom m s _
  rw [if_neg h]
/-- Digits that are too high are not taken. -/
theorem rootFrom_high {m D : Nat} (h : m < 2 ^ D * 2 ^ D) : ∀ k, rootFrom m (D + k) 0 = rootFrom m D 0
  | 0 => rfl
  | k + 1 => by
    rw [← rootFrom_high h k]
    apply Eq.symm
    apply rootFrom_no
    have : 2 ^ D * 2 ^ D ≤ 2 ^ (D + k) * 2 ^ (D + k) := Nat.mul_le_mul (Nat.pow_le_pow_right (by decide) (by omega)) (Nat.pow_le_pow_right (by decide) (by omega))
    rw [Nat.zero_add]
    omega
theorem rootW_digits {m D : Nat} (hD : D ≤ 64) (h : m < 2 ^ D * 2 ^ D) : rootFrom m D 0 = rootW m := by
  have := rootFrom_high h (64 - D)
  rw [show D + (64 - D) = 64 by omega] at this
  exact this.symm
/-- What a round keeps. -/
def RootAt (m t r : Nat) : Prop := (∃ k, r = 2 ^ t * k) ∧ r + 2 ^ t ≤ 18446744073709551616 ∧ rootFrom m t r = rootW m
theorem rootAt_start {m D : Nat} (hD : D ≤ 64) (h : m < 2 ^ D * 2 ^ D) : RootAt m D 0 :=
  ⟨⟨0, by simp⟩, by have := Nat.pow_le_pow_right (show 0 < 2 by decide) hD; omega, rootW_digits hD h⟩
theorem rootAt_in {m s r : Nat} (h : RootAt m (s + 1) r) : r + 2 ^ s < 18446744073709551616 := by
  have := h.2.1
  rw [Nat.pow_succ] at this
  have p : 0 < 2 ^ s := Nat.pow_pos (by decide)
  omega
theorem rootAt_yes {m s r : Nat} (h : RootAt m (s + 1) r) (c : (r + 2 ^ s) * (r + 2 ^ s) ≤ m) : RootAt m s (r + 2 ^ s) := by
  obtain ⟨⟨k, hk⟩, b, e⟩ := h
  rw [Nat.pow_succ] at b hk
  refine ⟨⟨2 * k + 1, by rw [hk, Nat.mul_add, Nat.mul_one, Nat.mul_assoc]⟩, by omega, ?_⟩
  rw [rootFrom_yes c]; exact e
theorem rootAt_no {m s r : Nat} (h : RootAt m (s + 1) r) (c : ¬ (r + 2 ^ s) * (r + 2 ^ s) ≤ m) : RootAt m s r := by
  obtain ⟨⟨k, hk⟩, b, e⟩ := h
  rw [Nat.pow_succ] at b hk
  refine ⟨⟨2 * k, by rw [hk, Nat.mul_assoc]⟩, by omega, ?_⟩
  rw [rootFrom_no c]; exact e
/-- The word of the next number that is tried. -/
theorem rootAt_word {m s r : Nat} (h : RootAt m (s + 1) r) : bits .or .u64 (r : Int) (2 ^ s) = ((r + 2 ^ s : Nat) : Int) := by
  obtain ⟨⟨k, hk⟩, b, e⟩ := h
  rw [Nat.pow_succ] at b
  have p : 0 < 2 ^ s := Nat.pow_pos (by decide)
  have c : ((2 : Int) ^ s) = ((2 ^ s : Nat) : Int) := by simp
  have e1 : (r : Int) = 2 ^ (s + 1) * (k : Int) := by rw [hk]; simp
  have o := (or_add (k := s + 1) (x := (k : Int)) (r := 2 ^ s) (by omega) (by rw [c]; omega) (by rw [Int.pow_succ, c]; omega) (by rw [← e1, c]; unfold B64; omega)).1
  rw [← e1, c] at o
  rw [c, o]
  omega
/-- Whether a square is not greater, by halves. -/
theorem sq_halves {m n : Nat} (hm : m < 340282366920938463463374607431768211456) (hn : n < 18446744073709551616) :
    (hiW ((n : Int) * n) < hiW (m : Int) ∨ (hiW ((n : Int) * n) = hiW (m : Int) ∧ loW ((n : Int) * n) ≤ loW (m : Int))) ↔ n * n ≤ m := by
  have e : ((n : Int) * n) = ((n * n : Nat) : Int) := by simp
  rw [e]
  generalize n * n = q
  unfold hiW loW B64
  omega
end Go.Proofs.Ytfikgbamnlmglaa
