/- The contract of the model's long division. Conditions: the dividend's halves are uint64, the divisor is from 1 to 2^63. -/
import Derived.Test.YtmikjgbojknlnaaWideZe
import Derived.Test.YtmikjgbojknlnaaNumZ
import Derived.OwnWalk
namespace Go.Proofs.Ytmikjgbojknlnaa
open Go.ChangeShapes Go.WideShapes Go.ChangeAt Go.RowKit
set_option linter.unusedVariables false
set_option maxRecDepth 100000
set_option linter.unusedSimpArgs false
set_option maxHeartbeats 1000000

/-- A round's word for what is left, and its number. -/
theorem ld_word {R l d : Int} (hd : 0 < d) (hd2 : d ≤ 9223372036854775808) (hl : InU l) {t : Nat} (ht : t < 64) :
    bits .or .u64 (ldR R l d t * 2) (bits .and .u64 (l / 2 ^ (63 - t)) 1) = 2 * ldR R l d t + ldBit l t := by
  have r := ldR_in (R := R) (l := l) hd t
  have b := ldBit_in l t
  have hp := pow_pos' (63 - t)
  unfold InU at hl
  have x0 : 0 ≤ l / 2 ^ (63 - t) := Int.ediv_nonneg hl.1 (by omega)
  have x1 : l / 2 ^ (63 - t) ≤ l := Int.ediv_le_self _ hl.1
  rw [and_one (by unfold InU; omega), Int.mul_comm (ldR R l d t) 2]
  exact or_bit r.1 (by unfold B64; omega) b.1 b.2
theorem ld_rest {R l d : Int} (hd : 0 < d) (hd2 : d ≤ 9223372036854775808) (hl : InU l) {t : Nat} (ht : t < 64) (c : d ≤ 2 * ldR R l d t + ldBit l t) :
    IntKind.u64.wrap (bits .or .u64 (ldR R l d t * 2) (bits .and .u64 (l / 2 ^ (63 - t)) 1) - d) = ldR R l d (t + 1) := by
  have r := ldR_in (R := R) (l := l) hd t
  have b := ldBit_in l t
  rw [ld_word hd hd2 hl ht, (ld_yes hd ht c).1, wrapU]
  exact loW_self (by unfold InU; omega)
theorem ld_quot {R l d : Int} (R0 : 0 ≤ R) (Rd : R < d) (hl : InU l) {t : Nat} (ht : t < 64) :
    IntKind.u64.wrap (ldQ R l d t * 2) = 2 * ldQ R l d t ∧ bits .or .u64 (2 * ldQ R l d t) 1 = 2 * ldQ R l d t + 1 := by
  have q := ldQ_in R0 Rd hl.1 (show l < B64 by have := hl.2; unfold B64; omega) (show t ≤ 64 by omega)
  have p : (2 : Int) ^ t ≤ 2 ^ 63 := by
    have : t ≤ 63 := by omega
    exact_mod_cast Nat.pow_le_pow_right (by decide : 0 < 2) this
  have p' : ldQ R l d t < 9223372036854775808 := by
    have : (2 : Int) ^ 63 = 9223372036854775808 := by decide
    omega
  rw [wrapU, Int.mul_comm, loW_self (by unfold InU; omega)]
  exact ⟨rfl, or_bit q.1 (by unfold B64; omega) (by omega) (by omega)⟩
theorem l02Divide_any (hi lo d : Int) (hh : InU hi) (hl : InU lo) (d0 : 1 ≤ d) (d1 : d ≤ 9223372036854775808) (w : World) :
    Calls Try.prog 219 #[.int .u64 hi, .int .u64 lo, .int .u64 d] w fun e w' =>
      e = .returned (.tuple #[.int .u64 (hi / d), .int .u64 (ldQ (hi % d) lo d 64), .int .u64 (ldR (hi % d) lo d 64)]) ∧ w = w' := by
  have h0 : 0 ≤ hi := hh.1
  have h1 : hi ≤ 18446744073709551615 := hh.2
  have l0 : 0 ≤ lo := hl.1
  have l1 : lo ≤ 18446744073709551615 := hl.2
  have m0 : 0 ≤ hi % d := Int.emod_nonneg _ (by omega)
  have m1 : hi % d < d := Int.emod_lt_of_pos _ (by omega)
  have S := Lib.hid (ldN_zero (R := hi % d) l0 (show lo < B64 by unfold B64; omega))
  go_enter Try.func219, Try.ntmps219
  go_wp2
  go_loop [10, 11, 12] (fun r q i => ∃ t : Nat, t ≤ 64 ∧ i = .int .i64 (63 - (t : Int)) ∧ q = .int .u64 (ldQ (hi % d) lo d t) ∧ r = .int .u64 (ldR (hi % d) lo d t)) (fun _ _ i => (intOf i + 1).toNat)
  case atStart =>
    refine ⟨0, by omega, rfl, ?_, ?_⟩
    · unfold ldQ; rw [S.out, Int.ediv_eq_zero_of_lt m0 m1]
    · unfold ldR; rw [S.out, Int.emod_eq_of_lt m0 m1]
  case round =>
    obtain ⟨t, ht, rfl, rfl, rfl⟩ := hrel
    by_cases hlt : t < 64
    · have r := ldR_in (R := hi % d) (l := lo) (show 0 < d by omega) t
      obtain ⟨r0, r1⟩ := r
      have top : (ldR (hi % d) lo d t / 9223372036854775808 == 1) = false := by
        have : ldR (hi % d) lo d t / 9223372036854775808 = 0 := Int.ediv_eq_zero_of_lt r0 (by omega)
        simp [this]
      have W := ld_word (R := hi % d) (show 0 < d by omega) d1 hl hlt
      obtain ⟨q1, q2⟩ := ld_quot m0 m1 hl hlt
      have Q1 := Lib.hid q1
      have Q2 := Lib.hid q2
      clear q1 q2
      by_cases c : d ≤ 2 * ldR (hi % d) lo d t + ldBit lo t
      · have c0 : d ≤ bits .or .u64 (ldR (hi % d) lo d t * 2) (bits .and .u64 (lo / 2 ^ (63 - t)) 1) := by rw [W]; exact c
        have X := Lib.hid (ld_rest (show 0 < d by omega) d1 hl hlt c)
        have Y := Lib.hid (ld_yes (show 0 < d by omega) hlt c).2
        clear W c
        go_wp2
        go_round
        case rel => exact ⟨t + 1, by omega, by go_num, by rw [Q1.out, Q2.out, Y.out], by rw [X.out]⟩
        case measure => simp [intOf]; omega
      · have c0 : ¬ d ≤ bits .or .u64 (ldR (hi % d) lo d t * 2) (bits .and .u64 (lo / 2 ^ (63 - t)) 1) := by rw [W]; exact c
        have X := Lib.hid (W.trans (ld_no (show 0 < d by omega) hlt c).1.symm)
        have Y := Lib.hid (ld_no (show 0 < d by omega) hlt c).2
        clear W c
        go_wp2
        go_round
        case rel => exact ⟨t + 1, by omega, by go_num, by rw [Q1.out, Y.out], by rw [X.out]⟩
        case measure => simp [intOf]; omega
    · obtain rfl : t = 64 := by omega
      go_wp2
      go_ret3
      exact ⟨rfl, rfl⟩
end Go.Proofs.Ytmikjgbojknlnaa
