/- Plain arithmetic of shifts, sums and comparisons of wide integers. Conditions: as each lemma says. -/
import Derived.Test.YtfikgbamnlmglaaNumC
namespace Go.Proofs.Ytfikgbamnlmglaa
open Go.RowKit
set_option linter.unusedVariables false
set_option maxRecDepth 100000

/-- The quotient by 2^n, rounded down; 0 outside of 0 to 127. -/
def shrW (v n : Int) : Int := if 0 ≤ n ∧ n ≤ 127 then v / 2 ^ n.toNat else 0
theorem pow_pos' (k : Nat) : (0 : Int) < 2 ^ k := Int.pow_pos (by decide)
theorem shr_in' {v : Int} (h : InW v) (k : Nat) : InW (v / 2 ^ k) := by
  have hp := pow_pos' k
  generalize (2 : Int) ^ k = p at hp
  unfold InW at *
  have e := Int.mul_ediv_add_emod v p
  have r0 := Int.emod_nonneg v (show p ≠ 0 by omega)
  constructor
  · exact Int.le_ediv_of_mul_le hp (by
      have : (-170141183460469231731687303715884105728 : Int) * p ≤ -170141183460469231731687303715884105728 * 1 := Int.mul_le_mul_of_nonpos_left (by omega) (by omega)
      omega)
  · by_cases hv : 0 ≤ v
    · have := Int.ediv_le_self p hv; omega
    · have := Int.ediv_neg_of_neg_of_pos (show v < 0 by omega) hp; omega
theorem shr_in {v : Int} (h : InW v) (n : Int) : InW (shrW v n) := by
  unfold shrW; split
  · exact shr_in' h _
  · unfold InW; omega

/-- A wide integer of halves h and l, divided by P, where P Q = 2^64. -/
theorem shr_split {h l P Q : Int} (hP : 0 < P) (hQ : 0 < Q) (hPQ : P * Q = B64) (l0 : 0 ≤ l) (l1 : l < B64) :
    (h * B64 + l) / P = h * Q + l / P ∧ 0 ≤ l / P ∧ l / P < Q := by
  refine ⟨?_, Int.ediv_nonneg l0 (by omega), Int.ediv_lt_of_lt_mul hP (by rw [Int.mul_comm, hPQ]; exact l1)⟩
  have e : h * B64 + l = l + h * Q * P := by rw [← hPQ, Int.mul_comm P Q, Int.mul_assoc, Int.add_comm]
  rw [e, Int.add_mul_ediv_right _ _ (by omega), Int.add_comm]
theorem shr_low {h r P Q : Int} (hP : 0 < P) (hQ : 0 < Q) (hPQ : P * Q = B64) (r0 : 0 ≤ r) (r1 : r < Q) :
    (h * Q + r) % B64 = Q * (h % P) + r ∧ (h % B64 * Q) % B64 = Q * (h % P) := by
  have m0 := Int.emod_nonneg h (show P ≠ 0 by omega)
  have m1 := Int.emod_lt_of_pos h hP
  have e := Int.mul_ediv_add_emod h P
  have big : Q * (h % P) + r < B64 := by
    have : Q * (h % P) ≤ Q * (P - 1) := Int.mul_le_mul_of_nonneg_left (by omega) (by omega)
    rw [Int.mul_sub, Int.mul_one, Int.mul_comm Q P, hPQ] at this
    omega
  have pos : 0 ≤ Q * (h % P) := Int.mul_nonneg (by omega) m0
  constructor
  · have e2 : h * Q + r = Q * (h % P) + r + B64 * (h / P) := by
      rw [← hPQ]
      have : h * Q = (P * (h / P) + h % P) * Q := by rw [e]
      rw [this, Int.add_mul, Int.mul_comm (h % P) Q]
      have : P * (h / P) * Q = P * Q * (h / P) := by rw [Int.mul_assoc, Int.mul_comm (h / P) Q, ← Int.mul_assoc]
      omega
    rw [e2, Int.add_mul_emod_self_left, Int.emod_eq_of_lt (by omega) big]
  · have e3 : h % B64 * Q % B64 = h * Q % B64 := by rw [Int.mul_emod, Int.emod_emod, ← Int.mul_emod]
    rw [e3, ← hPQ, Int.mul_comm h Q, Int.mul_comm P Q, Int.mul_emod_mul_of_pos _ _ hQ]
theorem or_add {x r : Int} {k : Nat} (x0 : 0 ≤ x) (r0 : 0 ≤ r) (r1 : r < 2 ^ k) (b : 2 ^ k * x + r < B64) :
    bits .or .u64 (2 ^ k * x) r = 2 ^ k * x + r ∧ bits .or .u64 r (2 ^ k * x) = 2 ^ k * x + r := by
  obtain ⟨X, rfl⟩ : ∃ X : Nat, x = X := ⟨x.toNat, by omega⟩
  obtain ⟨R, rfl⟩ : ∃ R : Nat, r = R := ⟨r.toNat, by omega⟩
  have e : ((2 : Int) ^ k * X) = ((2 ^ k * X : Nat) : Int) := by simp
  have h1 : R < 2 ^ k := by
    have : ((2 : Int) ^ k) = ((2 ^ k : Nat) : Int) := by simp
    omega
  have hb : 2 ^ k * X + R < 18446744073709551616 := by unfold B64 at b; omega
  rw [e, bits_or_u64_nat _ _ (by omega) (by omega), bits_or_u64_nat _ _ (by omega) (by omega), Nat.or_comm R, ← Nat.two_pow_add_eq_or_of_lt h1]
  constructor <;> simp
theorem hi_div (v : Int) (k : Nat) : hiW (v / 2 ^ k) = hiW v / 2 ^ k := by
  unfold hiW B64
  have hp := pow_pos' k
  rw [Int.ediv_ediv_of_nonneg (by omega), Int.ediv_ediv_of_nonneg (by omega), Int.mul_comm]
theorem lo_div {v : Int} (hv : InW v) (k : Nat) (hk : k ≤ 64) :
    bits .or .u64 (loW (loW (hiW v) * 2 ^ (64 - k))) (loW v / 2 ^ k) = loW (v / 2 ^ k) ∧
    bits .or .u64 (loW v / 2 ^ k) (loW (loW (hiW v) * 2 ^ (64 - k))) = loW (v / 2 ^ k) := by
  have hP := pow_pos' k
  have hQ := pow_pos' (64 - k)
  have hPQ : (2 : Int) ^ k * 2 ^ (64 - k) = B64 := by
    rw [← Int.pow_add, show k + (64 - k) = 64 by omega]; rfl
  have l01 := loW_in v
  obtain ⟨e1, r0, r1⟩ := shr_split (h := hiW v) hP hQ hPQ l01.1 (by unfold B64; omega)
  obtain ⟨e2, e3⟩ := shr_low (h := hiW v) hP hQ hPQ r0 r1
  rw [val_hl] at e1
  have m0 := Int.emod_nonneg (hiW v) (show (2 : Int) ^ k ≠ 0 by omega)
  have e4 : loW (loW (hiW v) * 2 ^ (64 - k)) = 2 ^ (64 - k) * (hiW v % 2 ^ k) := by rw [← e3]; rfl
  have big : 2 ^ (64 - k) * (hiW v % 2 ^ k) + loW v / 2 ^ k < B64 := by
    rw [← e2]; unfold B64; omega
  obtain ⟨o1, o2⟩ := or_add (k := 64 - k) m0 r0 r1 big
  have e5 : loW (v / 2 ^ k) = 2 ^ (64 - k) * (hiW v % 2 ^ k) + loW v / 2 ^ k := by rw [← e2, ← e1]; rfl
  rw [e4, o1, o2, e5]
  exact ⟨rfl, rfl⟩
theorem hi_in64 {v : Int} (hv : InW v) (k : Nat) : In64 (hiW v / 2 ^ k) := by
  rw [← hi_div]; exact hiW_in (shr_in' hv k)
/-- A shift by 64 and more is one of the high half. -/
theorem div_high (v : Int) (k : Nat) : v / 2 ^ (64 + k) = hiW v / 2 ^ k := by
  unfold hiW B64
  rw [Int.pow_add, Int.ediv_ediv_of_nonneg (by omega)]
  rfl
theorem hi_sign {v : Int} (hv : InW v) (k : Nat) : hiW (hiW v / 2 ^ k) = hiW v / 9223372036854775808 := by
  have hi := hi_in64 hv k
  have hh := hiW_in hv
  have hp := pow_pos' k
  have s : hiW v / 2 ^ k < 0 ↔ hiW v < 0 := by
    constructor
    · intro h
      by_cases g : hiW v < 0
      · exact g
      · exact absurd (Int.ediv_nonneg (show 0 ≤ hiW v by omega) (show 0 ≤ (2 : Int) ^ k by omega)) (by omega)
    · intro h; exact Int.ediv_neg_of_neg_of_pos h hp
  rw [hiW_small hi]
  split <;> omega

/-- The order of two wide integers, by their halves. -/
def cmpHL (h l g m : Int) : Int := if h < g ∨ (h = g ∧ l < m) then -1 else if h = g ∧ l = m then 0 else 1
theorem cmp_val (u v : Int) : cmpHL (hiW u) (loW u) (hiW v) (loW v) = if u < v then -1 else if u = v then 0 else 1 := by
  unfold cmpHL hiW loW B64
  repeat' split
  all_goals omega

instance (v : Int) : Decidable (InW v) := by unfold InW; infer_instance
/-- The sum; 0 if it is no Wide. -/
def sumW (u v : Int) : Int := if InW (u + v) then u + v else 0
def sumOk (u v : Int) : Bool := decide (InW (u + v))
/-- What is carried. -/
def carryW (x y c : Int) : Int := hiW (x + y + c)
theorem carry_01 {x y c : Int} (hx : InU x) (hy : InU y) (hc : c = 0 ∨ c = 1) : carryW x y c = 0 ∨ carryW x y c = 1 := by
  unfold InU at hx hy; unfold carryW hiW B64; omega
theorem add_low (u v : Int) : loW (loW u + loW v) = loW (addW u v) := by
  unfold addW loW B64; omega
theorem add_high {u v : Int} (hu : InW u) (hv : InW v) : loW (loW (hiW u) + loW (hiW v) + carryW (loW u) (loW v) 0) = loW (hiW (addW u v)) := by
  unfold InW at hu hv; unfold carryW addW loW hiW B64; omega
theorem sum_over {u v : Int} (hu : InW u) (hv : InW v) (s : (hiW u < 0) = (hiW v < 0)) (t : ¬ (hiW (addW u v) < 0) = (hiW u < 0)) : sumOk u v = false ∧ sumW u v = 0 := by
  have h : ¬ InW (u + v) := by
    intro k
    rw [addW_self k] at t
    apply t
    unfold InW at *
    have a : (hiW (u + v) < 0) ↔ u + v < 0 := by unfold hiW B64; omega
    have b : (hiW u < 0) ↔ u < 0 := by unfold hiW B64; omega
    have c : (hiW v < 0) ↔ v < 0 := by unfold hiW B64; omega
    rw [b, c] at s
    apply propext
    rw [a, b]
    have := iff_of_eq s
    omega
  exact ⟨decide_eq_false h, if_neg h⟩
theorem sum_fits {u v : Int} (hu : InW u) (hv : InW v) (s : ¬ (hiW u < 0) = (hiW v < 0) ∨ (hiW (addW u v) < 0) = (hiW u < 0)) : sumOk u v = true ∧ sumW u v = addW u v := by
  have h : InW (u + v) := by
    have a : (hiW (addW u v) < 0) ↔ addW u v < 0 := by unfold hiW B64; omega
    have b : (hiW u < 0) ↔ u < 0 := by unfold hiW B64; omega
    have c : (hiW v < 0) ↔ v < 0 := by unfold hiW B64; omega
    rcases s with s | s
    · have : ¬ (u < 0 ↔ v < 0) := fun k => s (propext (by rw [b, c]; exact k))
      unfold InW at *; omega
    · have := iff_of_eq s
      rw [a, b] at this
      unfold addW at this
      unfold InW at *; omega
  exact ⟨decide_eq_true h, by rw [addW_self h]; exact if_pos h⟩
/-- The negative; 0 if it is no Wide. -/
def oppW (v : Int) : Int := if v = -170141183460469231731687303715884105728 then 0 else -v
def oppOk (v : Int) : Bool := decide (¬ v = -170141183460469231731687303715884105728)
theorem opp_least {v : Int} (hv : InW v) (h : hiW v = -9223372036854775808) (l : loW v = 0) : oppW v = 0 ∧ oppOk v = false := by
  have e : v = -170141183460469231731687303715884105728 := by rw [← val_hl v, h, l]; rfl
  exact ⟨if_pos e, by unfold oppOk; simp [e]⟩
theorem opp_other {v : Int} (hv : InW v) (h : ¬ (hiW v = -9223372036854775808 ∧ loW v = 0)) : oppW v = negW v ∧ oppOk v = true := by
  have e : ¬ v = -170141183460469231731687303715884105728 := by
    intro e; apply h; rw [e]; exact ⟨rfl, rfl⟩
  exact ⟨by unfold oppW negW; rw [if_neg e, if_neg e], by unfold oppOk; simp [e]⟩
end Go.Proofs.Ytfikgbamnlmglaa
