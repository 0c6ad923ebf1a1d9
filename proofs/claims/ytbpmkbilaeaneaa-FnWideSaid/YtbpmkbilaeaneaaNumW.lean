/- Plain arithmetic of the law of wide integers: quotients by powers of 2 are shifts, a quotient times the divisor plus the rest is the number, a number plus its negative is 0, and the root lies between two squares. Conditions: as each lemma says. -/
import Derived.Test.YtbpmkbilaeaneaaNumK
import Derived.Test.YtbpmkbilaeaneaaNumG
import Derived.Test.YtbpmkbilaeaneaaWideR
namespace Go.Proofs.Ytbpmkbilaeaneaa
open Go.RowKit
set_option linter.unusedVariables false
set_option maxRecDepth 100000
set_option linter.unusedSimpArgs false
set_option maxHeartbeats 1000000

theorem okD_gt (d : Int) : (okD d == decide (0 < d)) = true := by
  unfold okD
  by_cases h : 1 ≤ d
  · rw [decide_eq_true h, decide_eq_true (show 0 < d by omega)]; rfl
  · rw [decide_eq_false h, decide_eq_false (show ¬ 0 < d by omega)]; rfl
theorem pow_small {k : Nat} (h : k ≤ 62) : (1 : Int) ≤ 2 ^ k ∧ (2 : Int) ^ k ≤ 4611686018427387904 := by
  have a := pow_pos' k
  have b := Nat.pow_le_pow_right (show 0 < 2 by decide) h
  have c : (((2 : Nat) ^ k : Nat) : Int) = 2 ^ k := by simp
  have e : (2 : Nat) ^ 62 = 4611686018427387904 := by decide
  refine ⟨by omega, by rw [← c]; omega⟩
theorem shr_quo {v n : Int} (h0 : 0 ≤ n) (h1 : n ≤ 62) : quoW v (2 ^ n.toNat) = shrW v n ∧ 0 ≤ remW v (2 ^ n.toNat) ∧ okD (2 ^ n.toNat) = true := by
  have p := (pow_small (k := n.toNat) (by omega)).1
  refine ⟨?_, ?_, decide_eq_true p⟩
  · unfold quoW shrW; rw [if_pos p, if_pos (by omega)]
  · unfold remW; rw [if_pos p]; exact (rem_in p).1
theorem back_sum {v d : Int} (hv : InW v) (d0 : 1 ≤ d) : v / d * d + v % d = v := by
  have e := Int.mul_ediv_add_emod v d
  rw [Int.mul_comm] at e; exact e
theorem back_in {v d : Int} (hv : InW v) (d0 : 1 ≤ d) : sumW (v / d * d) (v % d) = v ∧ sumOk (v / d * d) (v % d) = true := by
  unfold sumW sumOk
  rw [back_sum hv d0, if_pos hv]
  exact ⟨rfl, decide_eq_true hv⟩
theorem opp_sum {v : Int} (hv : InW v) (h : oppOk v = true) : oppW v = -v ∧ InW (-v) ∧ sumW v (-v) = 0 ∧ sumOk v (-v) = true := by
  have n : ¬ v = -170141183460469231731687303715884105728 := of_decide_eq_true h
  have i : InW (-v) := by unfold InW at *; omega
  have z : v + -v = 0 := by omega
  refine ⟨if_neg n, i, ?_, ?_⟩
  · unfold sumW; rw [z, if_pos (by unfold InW; omega)]
  · unfold sumOk; rw [z]; exact decide_eq_true (by unfold InW; omega)
theorem cmp_zero (v : Int) : (sqOk v == decide (0 ≤ cmpHL (hiW v) (loW v) 0 0)) = true := by
  have e := cmp_val v 0
  have z : hiW 0 = 0 ∧ loW 0 = 0 := ⟨rfl, rfl⟩
  rw [z.1, z.2] at e
  rw [e]
  unfold sqOk
  by_cases h : v < 0
  · rw [if_pos h, decide_eq_false (by omega), decide_eq_false (by omega)]; rfl
  · rw [if_neg h, decide_eq_true h, decide_eq_true (by split <;> omega)]; rfl
theorem cmp_le {u v : Int} (h : u ≤ v) : cmpHL (hiW u) (loW u) (hiW v) (loW v) ≤ 0 := by
  rw [cmp_val]; split
  · omega
  · split <;> omega
theorem cmp_gt {u v : Int} (h : v < u) : 0 < cmpHL (hiW u) (loW u) (hiW v) (loW v) := by
  rw [cmp_val, if_neg (by omega), if_neg (by omega)]; omega
theorem sq_between {v : Int} (hv : InW v) (h : ¬ v < 0) : ∃ r : Nat, sqW v = (r : Int) ∧ (r : Int) * r ≤ v ∧ v < ((r : Int) + 1) * ((r : Int) + 1) ∧ (r : Int) < 18446744073709551616 := by
  have s := rootW_spec (m := v.toNat) (by unfold InW at hv; omega)
  have e : sqW v = (rootW v.toNat : Int) := if_neg h
  generalize rootW v.toNat = r at s e
  refine ⟨r, e, ?_, ?_, ?_⟩
  · have := s.1; have k : ((r * r : Nat) : Int) ≤ v := by omega
    rwa [Int.natCast_mul] at k
  · have := s.2; have k : v < (((r + 1) * (r + 1) : Nat) : Int) := by omega
    rw [Int.natCast_mul] at k; simpa using k
  · by_cases c : r < 18446744073709551616
    · omega
    · have k := Nat.mul_le_mul (show 18446744073709551616 ≤ r by omega) (show 18446744073709551616 ≤ r by omega)
      have := s.1; unfold InW at hv; omega
end Go.Proofs.Ytbpmkbilaeaneaa
